import PyProof.Rows.All
import Wide.All
import OpenK.AllK
import Wide.FinOn
import Lean
import PyProof.EqAt
import PyProof.EqKinds
import PyProof.TupleCall
import PyProof.P3Statements
import PySem.Syntax
import PyProof.Dict
import PySem.Challenge.RW_traitorround_k56_kings_told_alike
set_option Elab.async false
set_option linter.all false
set_option maxHeartbeats 4000000
set_option maxRecDepth 100000
set_option bootstrap.genMatcherCode false
set_option genInjectivity false
set_option genSizeOf false
set_option genSizeOfSpec false
local macro_rules|`(command|def $n:declId $b:bracketedBinder* : $t $v:declVal)=>`(command|theorem $n:declId $b:bracketedBinder* : $t $v:declVal)
local macro_rules|`(command|abbrev $n:declId $s:optDeclSig $v:declVal)=>`(command|noncomputable def $n:declId $s:optDeclSig $v:declVal)
local macro_rules|`(tactic|simp! [$x,*] $[$l]?)=>`(tactic|simp only [$x,*] $[$l]?)
local macro_rules|`(tactic|let ⟨$x,*⟩:=$e)=>do let N:=fun (k:Lean.Name) a=>Lean.Syntax.node .none (`Lean.Parser.Tactic++k) a;let O:=fun a=>Lean.mkNullNode a;let M:=fun p=>N `rcasesPatMed #[O #[p]];return N `obtain #[Lean.mkAtom "",O #[M ((← `(⟨$x,*⟩)).raw.rewriteBottomUp fun s=>if s.isIdent then N `rcasesPat.one #[s] else match s with|.node _ k a=>if k==`Lean.Parser.Term.hole then N `rcasesPat.ignore a else if k==`Lean.Parser.Term.anonymousCtor then N `rcasesPat.tuple #[a[0]!,O (a[1]!.getArgs.mapIdx fun i p=>if i%2==0 then N `rcasesPatLo #[M p,O #[]] else p),a[2]!] else s|_=>s)],O #[],O #[Lean.mkAtom "",O #[e]]]
open Option renaming some→Φ,none→Ψ
open Bool renaming true→Γ,false→Δ,and_eq_true→Ε,false_ne_true→Ο,false_eq_true→Ρ,or_eq_true→Ϝ,not_eq_true'→ϟ,not_true→ϡ
open PySem renaming wpAny_bind→Θ,Value→Ξ,wpAny_pure→Ω,Shared→Β,sizeLine_eq→Υ,Program→ϊ,World→ό,wpAny_mono→ύ,Around→ϐ,mem_of_lookup→ϓ,wpAny_call_entry→ϔ,wpAny_truthy_bool→ϕ,wpAny_newObj_type→ϖ,wpAny_Call_Name_kw→Ϙ,wpAny_holding→ϝ,codeAny_mono→Ϟ
open PySem.Heap renaming get?_push_of_some→Λ,get?_push_size→Ζ,lt_size→Η,size_push→ώ
open List renaming getElem?_eq_some_iff→Α,getElem?_eq_getElem→Ι,mem_cons_of_mem→Κ,mem_cons_self→Μ,map_cons→Ν,map_congr_left→Τ,length_cons→Χ,getD_eq_getElem?_getD→ϋ,find?_cons→ϑ,prefix_append→ϙ,mapM_cons→Ϛ,length_filter_le→ϛ,prefix_refl→Ϡ,lookup_cons→Ϣ,append_nil→Ϥ,pairwise_cons→ϥ,length_nil→Ϧ
open Int renaming emod_lt_of_pos→ϒ
open Nat renaming lt_succ_self→ϗ,lt_succ_of_lt→ϣ
def qa1{a b:Bool}(h:(a&&b)=Γ):a=Γ/\b=Γ:=(Bool.and_eq_true a b).mp h
def qd1{p:Prop}[Decidable p]{b:Bool}(h:(decide p&&b)=Γ):p/\b=Γ:=(qa1 h).imp_left of_decide_eq_true
def qb1{α:Type}[BEq α][LawfulBEq α]{x y:α}{b:Bool}(h:(x==y&&b)=Γ):x=y/\b=Γ:=(qa1 h).imp_left eq_of_beq
def qL{a b:Bool}{p:Prop}(f:a=Γ->p)(h:(a&&b)=Γ):p/\b=Γ:=(qa1 h).imp_left f
open PySem.W (Frag KatTups Looks callWith_K callWith_K0 cellsFrom_some codeHdIn codeIn emptyDict findCls findIn fnOf handedIn hasDictIn instObj isFn kat_cons kat_no kat_one keepIn kia_one kitOne kitx_dict kitx_list kla_fn kla_obj lookIn makesIn methodObj mg_of mroIn nsIn plainGet plainGet_of plainOver readsIn specialIn tabObj takerIn takesIn)
open Bool (and_eq_true not_eq_true' or_eq_true)
open Nat (le_of_eq le_of_lt le_refl le_succ le_trans lt_irrefl lt_of_lt_of_le lt_succ_of_lt lt_succ_self lt_trans ne_of_gt ne_of_lt zero_add zero_le)
open List (Pairwise all_cons all_eq_true any_cons append_assoc append_nil contains_cons ext_getElem? getElem?_append_left getElem?_append_right getElem?_map getElem?_set_ne getElem?_set_self isEmpty_iff length_append length_cons length_filter_le length_map length_nil length_range length_replicate length_take lookup_cons mapM_cons map_append map_cons map_map map_nil mem_append mem_append_left mem_append_right mem_cons mem_cons_of_mem mem_cons_self mem_filter mem_map mem_of_getElem? mem_range mem_singleton nodup_append nodup_cons not_mem_nil of_mem_zip pairwise_cons pairwise_map prefix_append prefix_refl size_toArray)
open Array (length_toList)
open Int (emod_nonneg)
open Option (bind_some)
local macro_rules|`(command|example:=$s:str)=>do
 let mut a:=0;let mut n:=0;let mut k:=0;let mut r:=#[]
 for c in s.getString.toList do
  a:=a*92+(if c=='!' then 57 else c.toNat-35);k:=k+1
  if k%9==0 then
   n:=n+a;a:=0;r:=r.push (← `(command|theorem $(Lean.mkIdent (`PySem.W.Fast++.mkSimple s!"tw{n}")):ident : True:=trivial))
 return Lean.mkNullNode r
example:=".n<BXcN!y:t1me48Qf*FP%&U7Rf#l;(]if:S'P>sigmrR#2+cOqh2k'B`AOgNN:$Ufo7i!c4&b`j|MLw}*if}aGliz$PPDs9Rw(#-lUy5r`1@^QR]Qa7s$^hye`QB#-Xc%TQX&P$34&b>I/a*8:2T`<b''_<|?OK<2(Iq7gF)&_#WW5)K1B>$Ca]{(zg{$PMpy]Rj3.#g=^Yx-!3d!:/:Zm}0.u4s^Jvm-CsHC5dqP)p0^}Hvvv#&bCQ(4'D@Yw)lB7J[*cGMK``DP&p[t3Ew*q(F>sS}@(E&hja_X<u!$]T&}?Y*0'B@2hme~!#GmB]rRLc6}=$fv<Q</YQ,'lubT#F9fA/4-r-,crNq)>s)p3PRGnLf$/Fm:aGwC${7H/s[T:'v&rY!,s}2.t)-Z,QV)*C~GkFs!(9>>'{IYY+&AdJNeV.'#EG]2+Lz7^yMe7-Sf#!N.1dd4<$qndkU+yX)}R7G|feI$Diuf;O(x*-!q8R+s3#G^#[FItu#7[{UcL7R*-FS<[)N#$0$M+]Q,=(Ww1W?|ku*@t$Z-AT:+;B20v4jU#K&>B8At+=KIn-YkZo#4tL_o3sV''tT,..r@#j(A~HgEB%M5{JwpDS'qyf~=Qu$*Y8I|6[mM/KGQ)[*>i#~?jMvv($76`>d,bc]&yU}7c<'X+TU2%D<1{(=I$H'>(+%}_.VKD{Z-3P8ADHKH9wDBZF_ta$DS~pV9#H%gV;rzF}=#^:Nifc+q#ceIDRfgQ$pTXm5CsP)d>ie5QCO/KmEaQ8#~(VT3y^!$;(<x}'Jbir#KD3}~Z%K.([Zge|o2#f}.yrnh'(TpB=OM/3$1fl:oDAO%oGuQ#v^.&@hLI_p*i)9}MiU_`_$-]LizKY'#*5=??sAP$XlJ~7U&%&&,.8c4;2%xi0pA6Wa*Yg35+Bx0#g%eXSkY]+@5Es<(@I&.)_Q`T0(+q;&);'>+%}*ca,IKy&8[R=0*{|(CK56J@~N#U.4H^)/M%L<kY08!k*yzc*`~r<$>Dw3a|Ps#+x!kF+v/(,Hm1zGB}#y9g%8i8}#VK<(aOFo2J5dv.s,K%S;qX/gs1&3m|*Q3LX#@1#>(k-+#U4]l`$V`3'XqD`@Jl'*qV)V_!n&W=ghD5BP#JP/J'Jjd'2R=:l591%SmhlR&TD-)q'>1lTr%a#?k|P&b&Ql6AI'iS#H',=nnYb%Bv1^!oF{))d$x)#'l&[JS>/DYW6%3gEq=Qu&gz?#xH}:#xJpW+(om5>DKgF<SV%'tu?DLV6#-ePD1WWv(UL,m3N41.SHE@Id_d%2HKxC}iy&d/?w6XSc(5^0_#_t_&P{?dUD?`/Bs~r@uJB3>YY8x#[8&Vv_Lqh{u#Sbr$d=q5#F0a,sUlk-1_1<eD0{&8)%~g!Ym(t#'*s=qG&ZVU.yp}+(D:lpIS$')iee>H3k:'wI%gx)|M'^^6CIffx-I76M#ik30eZ)qY2sm%<?KaA*@s,y8Dum8r`&A7R!N!%8-=S.^1|dB%$UK@=!d*#z>i?O#;E$.we*n=cO(A=ilBi*G1QS^n~xr2#1KZ=pJ33'%#=(+lx$$/n$n;r4f)q^?6Js/a(SG{{+B1R+m,}9:#a}(s)J_Qi6~&m}nvz#k9&;B45m+/<%rq5lB,|:$.9zZ+DoH%<GvjG[Nu,Pcy`dDX-%Kcni[VD:#RRmKNR0?)8lDPeOn:&u)t4K^Z3(_38U?J#S&XN*jOgIY#7'T@/I7Z'8.&4ZVC%&PrJbEV>+%QTwQn(fd$C8$[wUWh$6+sIMvFu%)Rx$z31X#`oM$S#@4'8gSo,Y$>#.c;DCj)F.Qk|*qudr$KaRQ@m0!'-Y!b3d/i%Hd9QR:t;&2)h0;$a)+[VIRLfnq$kc{D`<<L#)eZJQnEB)V]qLspG#7%u8XZy5Z#}1(4O{_/56Xfq]ToL$f*(p;>6()|%!GZ0%@$s23DxapN'Q{XM8%4<(@(^UinlF%'/:kPVPY*NKd,^_'%.iI_%;aeI$l[t8fD0c#p&MK?KEj'8Rhja2Mp.D3i|MlVb'ZCip;pg/':FLsMm$O*`hwI8Yn@+.QcJF1_>$_+4?)d%X,zBf(i1z$0T%#Af`s@1]Od'1ry:#pXvfom?I(HS-VyV?T%vLoibL[k9-8J@nx6l--?mhOIli)7KylE)$f-68bk,O9o'B(E,*Y7O(x(uU'jj1$A[+M{%'&$y^_:@(u$0nCrB!x@:4-+2%W{1^.<enF.TAP(_[YD%B)a$3R$G`Atb#_jn@&w_V#A%7RzGw,8_a),3;KfUL.6A-MU)(.I[^R2`R$hWWK#rT>#mGr]qTuC%lF/sV[HU3*%l^)Yy`-jcmHBbK6)Pd,hER[U:30cjbVV&%bxod^ECR*QP8t-!CX#v7ame&[7)91`/c&:K*Mu%P$Ent2Ys(BrZ4x'R94<c8q#M1;p:|5oJ$h}tP7AJ)&%o/gb2E1%fEQ)kr[r#;mp[AZI.$'dE}yB<x8O&s*;Iej#b1:_]1c)(bl/}]P!K,.oXbKxN@#/k4H;GF%'y,jb1I4X9'_vc#%{$'(('*dCxN#-ev`{';7'UCG+YrFq)+w*z@Srt$Ba53yg{71=*=X`wYi+86,8|h!T%1[pr<'aw+^SoGFUTX#1Wl>mzNo('{Q29C-$#G.oE#J?P$Z-uSIk[U4Qc-|zBRp4cmsH]`_G.Td+e^%{)%E`^vI1!e$WSR,.2S0D0fd@Hs'}#d}X=A_/C#e,KJ&=B$&7J))yAgm%>J:neAjm(l*!y083J%/4#GNJ0_''.XEg7>h+V?ZFaxK*N,Hu)Iv{2)GXm6]L^8%&@h|'VD$'[c<x[7D$&#YN%=o!5+`Db}ysFQ#e2^JT9+<)MVl-b%m80>oFvv'IO#vMdz}(SY&1Cw!fqPx&CS}9):no,BOBX_u_m#r+oC</3_.p{pGq8D%(AMSi4e7s#~'M#wYtY3VFa@G>*l&=_AHqn#Z)!(jI*i~C+78Z~{=|t*'VH6OQf2$drXRs[$T$rp4e^W61#mNtZ=+AR5av0C=w[[(?^@xS'=,,*ww}#(-[%=f&yH')]$UB.kPC}t%lgNGwE7D&p0]H{tZv#Y(:hB<ke&GfVi(r@=&+;y2MQyO+^8a8B?7=#P%RUsTey5Q^^J&/@*,E>sp49L,(*PbG[7D*$NEa;_Xu2$`k@+=''4#q*r)T=11&8_M=Om86$67-:nMMVND>3pPtf(*.5xYF42W,)Ir{@)yG#d<~R2_4p.x4W8(dRH#RdIE9kUj%@}}i=thL$t2#)^iqs'%!*|I+W[.#mqPl=j)+'b5{Rt<C#q%0Wd)QY&3Xy[Xc3>-?oeQ6FTP$W1?tJ2n`+,D1(I[iu'p%|}lAH].p_1H>~2|'F0zUI~rp*tl`d<4=;3,Yc,4R!a$2TKP8&D|#J|e_9x'`%&bjP+sKt;l;w#@viJ0-p_5_;[s,ir~DCnJ*#;YyChSU+&.6kND+@0(,g<FBdZB%ez3;r%73#['(C/XC,#kr(Dgc[!1*>]|lp}e.-?C{nu,=(R<&T;YjS,cNwaDwoU$lX&RfvJu#v=o5L^OM+q_<b8Sj9#&`Ymy(sF#GzBT2QI]&@{E{7q2a%w,^R%P(h%ZSHT;=P@#eTYJ`q*q-BSQDU*?Y&.Y.6MtNG$BOeDL&Vx%?H:RTpiEH=ICy^;}|5O#mjy'<f&4<3i'<|;%jW[/^7C@#e4,2-kM5#A;GFy|Da/|G17S91c.@V&2O?#d%eCgSzgW!%1tdMk2=?.;yX6nUZw3$R/KV>/E'YW3Fk[D'#Q;sDJ@pU%o}~W1ERI$aFXZ#v,`#b|iI}W)a$b~E+]5=v#Zf-gTI;L7'[Tj}OO,#eHa1K*<t+p!Y}drhf+VBBgS~M*'J56Q-q^9(F#'f$%'D+9,B?dN*k#[AI$1gE+&D_TbN~{I(h4I|2BLm$nZ[`h:;c%4!Yt-CE9$~d/mz$iM7UOq4<>Ab#[c;0H4Q:<%(?Xg7xO#&y)9Ynct'b|,3!aMQ$jPs2c}gt)cHnHK=y>'S9mM@wm.)YtjKW~2(<OiR01/c@41{HIjezF,a.Mqw;fk2r}Af>JgS)B^CR5w?S*@qOJW+IX*++$AsPF5$Vi5Xa|a:4$7m_b,2?7GP0*6/2j-OEi`q$c#$xxV/9'}@'y'epn_Z;&2^WK~D?,)&`jlFN<J-q)&$Y4i@1}3f!]b]G/BJZ6E'r9+tM07bo@q,pONhYoSk/pNW=%XaU-X@x<S9l-$)2a!4g2+#Y5l6r'tE::yN|_':('Wh|l!Que&A|mT03}`0HAqB2NFQ#(K.Fzj/N$&Nc%(%iP3X4sBnsV3*61{N}Fx'+gx>Rn5EM#u/fgHv]-+Kq98C[2%+=13|yCm*%l*S*yJ)J#S-6EcDg2,TWtP}(W#$N.(G!(ej#{sc{1|}%-]J6,,SAP%[_DE.~5f(^:>IeyCH%ix_P2UE9,)!%XWdjK'}c7rwp3-&_Zl,QQKw*Pxv<GK=%$W{Z2|6x7%5_-]Mm%V'sjPr`/4x#ouHNA;7v&S{YNk%rz#p_b>r,7E+AO}!ojV0#/1?8g%O}#g|_+;7'11-'$35NC##'8xlF0]>'X`z[XdE;$5rx+Hh4'$L_7o0ap{*hbZinZ5&#3Rb:ccVt396K}>L3G&T7!FIeE6,w9=BDaAN*3@XyNe<o0[Irus1xS#Z6pw)Dou<9P'UZO}O),uD3xt1@4m?3V3}{H,25L9}]b;#74TJ`zl_$xvc)HM&S$:Slclz2x'F:|=,H^]+R3!LSa#i#[|pIDJ1O'z:e'YxMD%Y4}'iri}#h%9q[Yua+ZVq9ZZIj$+*&winJy%}YH)gC_C&!b@/m/)N-qk)5-=%P(AsMw5Cqh#J&U0:4~D#>Z.NOo'3#nv.~;d4i/^LB91-eS&wm61:`>j#T%&9YTq0&_91/ZwJZ)7eprNK+m'ft`=;eGx(|kb>~yGs9~w<::r>F(k,*7f;$G#|mMowwv`-lj%izHL'$E!_@7pxJ$i$^bYvE*'|~(vnTSI$E5_^RQP`6*`:?`~=<3*6)8W:3B**G:A/<QK%A0I12Y57%QW<:pZG+$#59:*G-R's&GO'`St&Zy|G`3%x)NuN}8$x-#Y4vsJ5ja(+FcU-i655HO7KdO3^,z9@LlD5v#]D0=B-o)+4~IvGJO$#8E6NcHtU)Dc1$'lE,%C6,z.ud3&5wQau0PF&R)Eo/P]d*,O:O(oNY&P$-Oq@wW+CL?93un2'K)7%bpIR$&f3~ERiT#xu@b.H&D"
def nS{α:Type _}{a:α}{P:Prop}(h:Ψ=Φ a):P:=by cases h
def nB{P:Prop}(h:Δ=Γ):P:=by cases h
def usS{b:Type}{P:List b->Prop}(h:∀a,∀us:List b,us.length=n->P (a::us)):∀us:List b,us.length=n+1->P us:=λus e=>by cases us with|nil=>cases e|cons a us=>exact h a us (Nat.succ.inj e)
def usZ{a:Type}{P:List a->Prop}(h:P []):∀us:List a,us.length=0->P us:=λus e=>by cases us with|nil=>exact h|cons=>cases e
def eY{α β:Type _}{p q r:α->β->Prop}{P:Prop}(h:∃a b,p a b/\q a b/\r a b)(k:∀a b,p a b->q a b->r a b->P):P:=h.elim λa h=>h.elim λb h=>k a b h.1 h.2.1 h.2.2
namespace L2
open PySem PySem.Spec PyProof.Rows
@[reducible]def Key:=Sum Int Str
abbrev zgK:Key->Ξ->Bool
 |.inl k,v=>Ξ.isInt k v|.inr x,v=>Ξ.isStrOf x v
abbrev keyH(w:ό):Key->Int
 |.inl k=>hashInt k|.inr x=>hashStr w x
def zay:∀{k:Key}{v:Ξ},zgK k v=Γ->(∃i t,k=Sum.inl i/\v=Ξ.int i t)\/(∃x t,k=Sum.inr x/\v=Ξ.str x t)
 |.inl i,v,h=>by let⟨t,e⟩:=Ξ.isInt_shape (k:=i) (v:=v) h;exact .inl ⟨i,t,rfl,e⟩| .inr x,v,h=>by let⟨t,e⟩:=Ξ.isStrOf_shape (x:=x) (v:=v) h;exact .inr ⟨x,t,rfl,e⟩
def zlx(i)(t):zgK (.inl i) (.int i t)=Γ:=by simp[zgK,Ξ.isInt]
def zlw(x)(t):zgK (.inr x) (.str x t)=Γ:=by simp[zgK,Ξ.isStrOf]
def ztE(a b):decide ((Sum.inl a:Key)=Sum.inl b)=(a==b):=by by_cases e:a=b;subst e;simp;have h:¬(Sum.inl a:Key)=Sum.inl b:=λq=>e (Sum.inl.inj q);rw[decide_eq_false h];exact(beq_eq_false_iff_ne.mpr e).symm
def ztA(a b):decide ((Sum.inr a:Key)=Sum.inr b)=decide (a=b):=by by_cases e:a=b;subst e;simp;have h:¬(Sum.inr a:Key)=Sum.inr b:=λq=>e (Sum.inr.inj q);rw[decide_eq_false h,decide_eq_false e]
def ztD(a)(b):decide ((Sum.inl a:Key)=Sum.inr b)=Δ:=decide_eq_false (λq=>by cases q)
def ztB(a)(b):decide ((Sum.inr a:Key)=Sum.inl b)=Δ:=decide_eq_false (λq=>by cases q)
abbrev zar(prog:ϊ)(w:ό):PySem.KeyKind prog w Key where
 is:=zgK
 hash:=keyH w
 inj:=λv a b f d=>by rcases zay f with⟨i,t,rfl,rfl⟩|⟨x,t,rfl,rfl⟩;rcases zay d with⟨j,u,rfl,e⟩|⟨y,u,rfl,e⟩;injection e with e1 _;rw[e1];exact nomatch e;rcases zay d with⟨j,u,rfl,e⟩|⟨y,u,rfl,e⟩;exact nomatch e;injection e with e1 _;rw[e1]
 byValue:=λk v h=>by rcases zay h with⟨i,t,rfl,rfl⟩|⟨x,t,rfl,rfl⟩<;>rfl
 pyHash:=λc h=>by rcases zay c with⟨i,t,rfl,rfl⟩|⟨x,t,rfl,rfl⟩;exact wpAny_pyHash_int h;exact wpAny_pyHash_str h
 eqBool:=λg c h=>by rcases zay g with⟨i,t,rfl,rfl⟩|⟨x,t,rfl,rfl⟩;rcases zay c with⟨j,u,rfl,rfl⟩|⟨y,u,rfl,rfl⟩;rw[ztE]at h;exact wpAny_eqBool_int h;rw[ztD]at h;exact SeqAt.EqAt.int_str i t y u _ _ _ _ h;rcases zay c with⟨j,u,rfl,rfl⟩|⟨y,u,rfl,rfl⟩;rw[ztB]at h;exact SeqAt.EqAt.str_int x t j u _ _ _ _ h;rw[ztA]at h;exact wpAny_eqBool_str h
 «strs»:=λk x t v h=>by
  rcases zay h with⟨i,u,rfl,e⟩|⟨y,u,rfl,e⟩;exact nomatch e
  . injection e with e1 _;subst e1;cases v<;>rfl
def zjy(prog)(w)(k)(v):(zar prog w).is k v=zgK k v:=rfl
def zhJ(prog)(w)(i)(t):(zar prog w).is (.inl i) (.int i t)=Γ:=zlx i t
def zhI(prog)(w)(x)(t):(zar prog w).is (.inr x) (.str x t)=Γ:=zlw x t
set_option genInjectivity true in
inductive V where
 |non|bl (b:Bool)|int (i:Int)|str (x:Str)|byt (b:Array UInt8)|flt (b:UInt64)|ref (a:Addr)|ty (n:String)
 deriving DecidableEq
abbrev RelV:V->Ξ->Prop
 |.non,u=>u=Ξ.none|.bl b,u=>u=Ξ.bool b|.int i,u=>∃t,u=Ξ.int i t|.str x,u=>∃t,u=Ξ.str x t|.byt b,u=>∃t,u=Ξ.bytes b t|.flt b,u=>∃t,u=Ξ.float b t|.ref a,u=>u=Ξ.ref a|.ty n,u=>u=Ξ.type n
@[reducible]def Vals:List V->List Ξ->Prop:=Paired RelV
def Vals.length(r:Vals xs us):xs.length=us.length:=Paired.length r
def Vals.get:∀{xs:List V}{us:List Ξ}{i:Nat}{x:V},Vals xs us->xs[i]?=Φ x->∃u,us[i]?=Φ u/\RelV x u
 |_,_,_,_,.nil,e=>by simp at e|_,_,0,_,.cons r _,e=>by simp at e;subst e;exact⟨_,rfl,r⟩| _,_,i+1,x,.cons _ t,e=>by let⟨u,a,b⟩:=Vals.get (i:=i) (x:=x) t (by simpa using e);exact⟨u,by simpa using a,b⟩
def Vals.append:∀{xs ys:List V}{us a:List Ξ},Vals xs us->Vals ys a->Vals (xs++ys) (us++a)
 |_,_,_,_,.nil,s=>s|_,_,_,_,.cons r t,s=>.cons r (Vals.append t s)
def Vals.take:∀{xs:List V}{us:List Ξ}(n:Nat),Vals xs us->Vals (xs.take n) (us.take n)
 |_,_,0,_=>.nil|_,_,_+1,.nil=>.nil|_,_,n+1,.cons r t=>.cons r (Vals.take n t)
def Vals.drop:∀{xs:List V}{us:List Ξ}(n:Nat),Vals xs us->Vals (xs.drop n) (us.drop n)
 |_,_,0,r=>r|_,_,_+1,.nil=>.nil|_,_,n+1,.cons _ t=>Vals.drop n t
def Vals.none_of:∀{xs:List V}{us:List Ξ}{i:Nat},Vals xs us->xs[i]?=Ψ->us[i]?=Ψ:=λ{xs us i} r e=>by have a:=r.length;have b:xs.length<=i:=List.getElem?_eq_none_iff.mp e;exact List.getElem?_eq_none_iff.mpr (by lia)
abbrev RelO:Option V->Option Ξ->Prop
 |some v,Φ u=>RelV v u|none,Ψ=>True|_,_=>False
abbrev KV{a:Type}:List (a×V)->List (a×Ξ)->Prop:=Paired λ(p:a×V) (q:a×Ξ)=>p.1=q.1/\RelV p.2 q.2
abbrev kV:Key->V
 |.inl i=>.int i|.inr x=>.str x
inductive HO where
 |lst (xs:List V)
 |tup (xs:List V)
 |dK (kvs:List (Key×V))|dT (kvs:List (List Key×V))
 |set (S:Int->Bool) (n:Nat)
 |ins (C dx:Addr) (fs:List (Str×V))
 |own (x:Addr)
 |xd (fs:List (Str×V))
 |met (f x:Addr)
 |rng (lo hi:Int)
 |frz (o:Obj) (u:HO)
 |tbl (ps:Array Ξ)
 |ext (φ:Heap->Prop)
@[reducible]def Hp:=Addr->Option HO
abbrev upd(H:Hp)(a:Addr)(o:HO):Hp:=λb=>if b=a then Φ o else H b
def zaf:upd H a o a=Φ o:=by unfold upd;rw[if_pos rfl]
def zad(h:b≠a):upd H a o b=H b:=by unfold upd;rw[if_neg h]
def zpl:upd (upd H a o) a u=upd H a u:=by funext b;unfold upd;split<;>rfl
def ne_of{H:Hp}(h:H a=Φ o)(h':H b=Φ u)(d:o≠u):a≠b:=by intro e;subst e;rw[h]at h';exact d (Option.some.inj h')
def zai{H:Hp}(h:H a=Φ o)(h':H b=Ψ):a≠b:=by intro e;subst e;rw[h]at h';cases h'
section
variable(P:ϊ)(w:ό)
abbrev ObjOk(H:Hp)(h:Heap)(a:Addr):HO->Prop
 |.lst d=>d.length<=sizeLine/\∃(b:List Ξ) (n:Nat),Vals d b/\h.get? a=Φ {cls:=.type "list",data:=.seq b.toArray n}|.tup d=>d.length<=sizeLine/\∃b:List Ξ,Vals d b/\IsTup h a b.toArray|.dK c=>c.length<=sizeLine/\(a==sysModules)=Δ/\∃k,KV c k/\h.DictOf (zar P w) a k
 |.dT c=>c.length<=sizeLine/\(a==sysModules)=Δ/\∃d:List (List Key×Addr×Ξ),
  Paired (λ(p:List Key×V) (q:List Key×Addr×Ξ)=>p.1=q.1/\H q.2.1=Φ (.tup (p.1.map kV))/\RelV p.2 q.2.2) c d/\
  ∃o l s,h.get? a=Φ o/\o.ExactDict/\o.data=.dict l s/\l.toList=d.map (entryOfKey (tupleKind (zar P w)))/\(d.map (·.1)).Nodup
 |.set S n=>h.SetOf (intKind P w) a S n
 |.ins C i g=>H i=Φ (.own a)/\g.length<=1000/\i≠a/\h.get? a=Φ (instObj C i)/\
  ∃e,h.Ns1 i e/\(∀f,RelO (g.lookup f) (e f))/\PySem.Within e (g.map (·.1))
 |.own _=>∃o,h.get? a=Φ o|.xd g=>∃e,h.Ns1 a e/\∀f,RelO (g.lookup f) (e f)|.rng lo y=>∃t u v,h.get? a=Φ {cls:=.type "range",data:=.fields #[.int lo t,.int y u,.int 1 v]}|.frz o u=>h.get? a=Φ o/\ObjOk H h a u|.tbl z=>h.get? a=Φ {cls:=.none,data:=.fields z}|.met f x=>h.get? a=Φ (methodObj (.ref f) (.ref x))|.ext j=>j h/\(∃o,h.get? a=Φ o)/\∀m r:Heap,j m->(∀o,m.get? a=Φ o->r.get? a=Φ o)->j r
abbrev HOk(H:Hp)(h:Heap):Prop:=∀a o,H a=Φ o->ObjOk P w H h a o
end
section
variable{P:ϊ}{w:ό}{H H':Hp}{h h':Heap}{a:Addr}{o:HO}
def ObjOk.lt(x:ObjOk P w H h a o):a<h.objs.size:=by cases o with|lst c=>let⟨_,_,_,_,e⟩:=x;exact Η e|tup c=>let⟨_,_,_,p⟩:=x;exact p.lt|dK b=>let⟨_,_,_,_,o,_,_,e,_⟩:=x;exact Η e|dT b=>let⟨_,_,_,_,o,_,_,e,_⟩:=x;exact Η e|set S n=>let⟨o,_,_,_,e,_⟩:=x;exact Η e|ins C g d=>let⟨_,_,_,e,_⟩:=x;exact Η e|own y=>let⟨_,e⟩:=x;exact Η e|xd d=>let⟨_,⟨_,_,_,e,_⟩,_⟩:=x;exact Η e|rng lo i=>let⟨_,_,_,e⟩:=x;exact Η e|frz j u=>let⟨e,_⟩:=x;exact Η e|tbl k=>exact Η (show h.get? a=Φ _ from x)|met f y=>exact Η (show h.get? a=Φ _ from x)|ext l=>let⟨_,⟨_,e⟩,_⟩:=x;exact Η e
def Paired.mapP{c:List e}{d:List g}(h:Paired F c d)(f:∀a b,F a b->G a b):Paired G c d:=by induction h with|nil=>exact .nil|cons r _ i=>exact .cons (f _ _ r) i
def ObjOk.stay(x:ObjOk P w H h a o)(k:∀b u,(b=a\/H b=Φ (.own a))->h.get? b=Φ u->h'.get? b=Φ u)
  (E:∀b,H b=Φ (.own a)->H' b=Φ (.own a)) (G:∀b xs,H b=Φ (.tup xs)->H' b=Φ (.tup xs)):ObjOk P w H' h' a o:=by
 induction o with|lst xs=>let⟨z,l,n,r,e⟩:=x;exact⟨z,l,n,r,k _ _ (.inl rfl) e⟩|tup xs=>let⟨z,l,r,g,e,c⟩:=x;exact⟨z,l,r,g,k _ _ (.inl rfl) e,c⟩|dK m=>let⟨z,y,I,r,g,i,j,e,c⟩:=x;exact⟨z,y,I,r,g,i,j,k _ _ (.inl rfl) e,c⟩| dT m=>let⟨z,y,xs,r,g,i,j,e,c⟩:=x;exact⟨z,y,xs,Paired.mapP r λp q z=>⟨z.1,G _ _ z.2.1,z.2.2⟩,g,i,j,k _ _ (.inl rfl) e,c⟩|set S n=>let⟨g,i,j,t,e,c⟩:=x;exact⟨g,i,j,t,k _ _ (.inl rfl) e,c⟩| ins C O J=>let⟨d,z,L,e,s,⟨A,i,j,M,c⟩,r⟩:=x;exact⟨E _ d,z,L,k _ _ (.inl rfl) e,s,⟨A,i,j,k _ _ (.inr d) M,c⟩,r⟩|own y=>let⟨g,e⟩:=x;exact⟨g,k _ _ (.inl rfl) e⟩|xd J=>let⟨s,⟨A,i,j,e,c⟩,r⟩:=x;exact⟨s,⟨A,i,j,k _ _ (.inl rfl) e,c⟩,r⟩|rng lo Q=>let⟨t,u,v,e⟩:=x;exact⟨t,u,v,k _ _ (.inl rfl) e⟩|frz g u N=>let⟨e,q⟩:=x;exact⟨k _ _ (.inl rfl) e,N q⟩| tbl B=>have e:h.get? a=Φ {cls:=.none,data:=.fields B}:=x;show h'.get? a=Φ {cls:=.none,data:=.fields B};exact k a _ (.inl rfl) e| met f y=>have e:h.get? a=Φ (methodObj (.ref f) (.ref y)):=x;show h'.get? a=Φ (methodObj (.ref f) (.ref y));exact k a _ (.inl rfl) e|ext T=>let⟨p,⟨o,e⟩,st⟩:=x;exact⟨st _ _ p λo q=>k _ _ (.inl rfl) q,⟨o,k _ _ (.inl rfl) e⟩,st⟩
def HOk.lt(x:HOk P w H h)(e:H a=Φ o):a<h.objs.size:=(x a o e).lt
def HOk.fresh(x:HOk P w H h)(e:h.objs.size<=a):H a=Ψ:=by cases q:H a with|none=>rfl|some u=>exact absurd (lt_of_lt_of_le (x.lt q) e) (lt_irrefl _)
def HOk.kept(x:HOk P w H h)(k:∀b u,h.get? b=Φ u->h'.get? b=Φ u):HOk P w H h':=λa o e=>(x a o e).stay (λb u _ q=>k b u q) (λ_ q=>q) λ_ _ q=>q
def HOk.laid(x:HOk P w H h)(k:∀b u,h.get? b=Φ u->h'.get? b=Φ u)(g:h.objs.size<=a)(new:ObjOk P w (upd H a o) h' a o):HOk P w (upd H a o) h':=λb u e=>by have d:=x.fresh g;by_cases f:b=a;subst f;rw[zaf]at e;cases e;exact new;rw[zad f]at e;exact(x b u e).stay (λc v _ q=>k c v q) (λc q=>by rw[zad (zai q d)];exact q) λc i q=>by rw[zad (zai q d)];exact q
end
abbrev Rd(H:Hp)(a:Addr)(u:HO):Prop:=H a=Φ u\/∃o,H a=Φ (.frz o u)
def Rd.of(h:H a=Φ u):Rd H a u:=.inl h
def Rd.ok(r:Rd H a u)(x:HOk P w H h):ObjOk P w H h a u:=by rcases r with r|⟨o,r⟩;exact x a u r;let⟨_,q⟩:=x a _ r;exact q
abbrev Mut:Option HO->Prop
 |some (.lst _)=>True|some (.dK _)=>True|some (.dT _)=>True|some (.set _ _)=>True|some (.ins _ _ _)=>True|some (.ext _)=>True|_=>False
section
variable{P:ϊ}{w:ό}{H:Hp}{h h':Heap}{x e:Addr}{o':HO}
def HOk.write(ok:HOk P w H h)(g:Mut (H x))(n:e=x\/H e=Φ (.own x))(k:∀b u,b≠e->h.get? b=Φ u->h'.get? b=Φ u)(m:∃u,h'.get? e=Φ u)
  (new:ObjOk P w (upd H x o') h' x o'):HOk P w (upd H x o') h':=λb u q=>by
 have d:∀c y,H c=Φ (.own y)->c≠x:=λc y r z=>by subst z;rw[r]at g;exact g
 have f:∀c i,H c=Φ (.tup i)->c≠x:=λc i r z=>by subst z;rw[r]at g;exact g
 by_cases j:b=x;subst j;rw[zaf]at q;cases q;exact new;rw[zad j]at q;by_cases a:b=e;have o:H b=Φ (.own x):=by rcases n with z|z;exact absurd (a.trans z) j;rw[a];exact z
 rw[q]at o;cases o;let⟨v,p⟩:=m;exact⟨v,by rw[a];exact p⟩;refine(ok b u q).stay (λc v l r=>k c v ?_ r) (λc r=>by rw[zad (d c b r)];exact r) λc i r=>by rw[zad (f c i r)];exact r
 rcases l with rfl|l;exact a;rintro rfl;rcases n with z|z;exact d c b l z;rw[l]at z;cases z;exact j rfl
end
structure Un(fs ex:List Addr)(H H':Hp)(h h':Heap):Prop where
 keep:∀b o,h.get? b=Φ o->H b=Ψ->b∉fs->b∉ex->h'.get? b=Φ o
 slot:∀b o,h.get? b=Φ o->H b=Ψ->b∈fs->b∉ex->∃sl,h'.get? b=Φ {o with slots:=sl}
 free:∀b o,h.get? b=Φ o->H b=Ψ->b∉ex->H' b=Ψ
 there:∀b o,h.get? b=Φ o->b∉ex->∃o',h'.get? b=Φ o'
 tups:∀b xs,H b=Φ (.tup xs)->H' b=Φ (.tup xs)
 frzs:∀b o u,H b=Φ (.frz o u)->H' b=Φ (.frz o u)
 tbls:∀b ps,H b=Φ (.tbl ps)->∃more,H' b=Φ (.tbl (ps++more))
section
variable{fs fs' ex ex':List Addr}{H H1 H2:Hp}{h h1 h2 h':Heap}{a x e:Addr}{o:HO}
def Un.any(u:Un fs ex H H1 h h1)(q:h.get? b=Φ c)(n:H b=Ψ)(d:b∉ex):∃g,h1.get? b=Φ {c with slots:=g}:=by by_cases f:b∈fs;exact u.slot b c q n f d;exact⟨c.slots,u.keep b c q n f d⟩
def Un.kept(k:∀b u,h.get? b=Φ u->h'.get? b=Φ u):Un fs ex H H h h':=⟨λb c q _ _ _=>k b c q,λb c q _ _ _=>⟨c.slots,k b c q⟩,λ_ _ _ n _=>n,λb c q _=>⟨c,k b c q⟩,λ_ _ q=>q,λ_ _ _ q=>q,λ_ d q=>⟨#[],by rw[q];simp⟩⟩
def Un.refl:Un fs ex H H h h:=Un.kept λ_ _ q=>q
def Un.laid(k:∀b u,h.get? b=Φ u->h'.get? b=Φ u)(d:h.objs.size<=a)(c:H a=Ψ):Un fs ex H (upd H a o) h h' where
 keep:=λb u q _ _ _=>k b u q
 slot:=λb u q _ _ _=>⟨u.slots,k b u q⟩
 free:=λb u q n _=>by rw[zad (ne_of_lt (lt_of_lt_of_le (Η q) d))];exact n
 there:=λb u q _=>⟨u,k b u q⟩
 tups:=λb f q=>by rw[zad (zai q c)];exact q
 frzs:=λb u f q=>by rw[zad (zai q c)];exact q
 tbls:=λb g q=>⟨#[],by rw[zad (zai q c),q];simp⟩
def Un.write(d:Mut (H x))(l:e=x\/H e=Φ (.own x))(k:∀b u,b≠e->h.get? b=Φ u->h'.get? b=Φ u)(f:∃u,h'.get? e=Φ u):Un fs ex H (upd H x o) h h':=by
 have i:∀b,H b=Ψ->b≠x:=λb n z=>by subst z;rw[n]at d;exact d
 have j:∀b,H b=Ψ->b≠e:=λb n z=>by subst z;rcases l with r|r;exact i b n r;rw[n]at r;exact nS r
 have g:∀b u,H b=Φ u->¬Mut (Φ u)->b≠x:=λb u q m z=>by subst z;rw[q]at d;exact m d
 refine⟨λb u q n _ _=>k b u (j b n) q,λb u q n _ _=>⟨u.slots,k b u (j b n) q⟩,λb u q n _=>by rw[zad (i b n)];exact n,λb u q _=>?_,
  λb p q=>by rw[zad (g b _ q λz=>z)];exact q,λb u p q=>by rw[zad (g b _ q λz=>z)];exact q,λb s q=>⟨#[],by rw[zad (g b _ q λz=>z),q];simp⟩⟩
 by_cases c:b=e;subst c;exact f;exact⟨u,k b u c q⟩
end
abbrev trk(h:Heap)(H:Hp):List Addr:=(List.range h.objs.size).filter λa=>(H a).isSome
abbrev hidT(h:Heap)(H:Hp):Heap:=PySem.W.hideAll h (trk h H)
def zlQ(h)(H):(hidT h H).objs.size=h.objs.size:=PySem.W.hideAll_size _ _
def znQ(e:h.get? b=Φ o)(n:H b=Ψ):(hidT h H).get? b=Φ o:=PySem.W.hideAll_get _ e λa=>by have q:(H b).isSome=Γ:=(mem_filter.mp a).2;rw[n]at q;simp at q
def zqG(e:(hidT h H).get? b=Φ o):h.get? b=Φ o/\H b=Ψ:=by have a:h.get? b=Φ o:=PySem.W.of_hideAll (trk h H) e;refine⟨a,?_⟩;cases q:H b with|none=>rfl| some x=>have c:b∈trk h H:=mem_filter.mpr ⟨mem_range.mpr (Η a),by simp[q]⟩;have z:(hidT h H).get? b=Ψ:=PySem.W.hideAll_none (trk h H) c;rw[z]at e;exact nS e
structure Mod(K:Frag)(mg:Str->Option Ξ)(base:Heap):Prop where
 kin:K.In base
 glob:base.Ns mainGlobals mg
 blt:∃mb,base.Ns builtinsNs mb/\∀x:Str,x≠"__name__"->mb x=bootBuiltins x
 nolimit:base.NoLimit
structure Cx where
 prog:ϊ
 w:ό
 K:Frag
 mg:Str->Option Ξ
 base:Heap
 A:ϐ
 N:List Str
 s₀:Β
 H₀:Hp
 env:Env
 outer:List Env
 stack:List Env
 ex:List Addr
 fn:Str->Bool
 calm:Bool
 pn:List (Addr×Obj)
 xe:Ξ->Β->Prop
abbrev frs(l:List Env):List Addr:=l.filterMap (·.frame)
noncomputable abbrev Cx.fs(X:Cx):List Addr:=frs X.outer
abbrev Vis(a:Scope)(x:Str):Prop:=a.names.lookup x=Φ .local\/a.names.lookup x=Φ .cell\/a.names.lookup x=Φ .free
abbrev Loc(a:Scope)(x:Str):Prop:=a.names.lookup x=Φ .local\/a.names.lookup x=Φ .cell
abbrev Look(env:Env)(h:Heap)(m:Str->Option Ξ)(x:Str)(u:Ξ):Prop:=(env.kindOf x=Φ .local/\m x=Φ u)\/((env.kindOf x=Φ .cell\/env.kindOf x=Φ .free)/\∃c,env.cells.lookup x=Φ c/\h.IsCell c (Φ u))
structure Cx.Ok(X:Cx):Prop where
 mod:Mod X.K X.mg X.base
 kind:X.env.scope.kind=.function
 glob:X.env.globals=mainGlobals
 blt:X.env.builtins=builtinsNs
 above:X.s₀.heap.objs.size<=X.env.locals
 inj:∀x y c,X.env.cells.lookup x=Φ c->X.env.cells.lookup y=Φ c->x=y
 has:∀x,(X.env.kindOf x=Φ .cell\/X.env.kindOf x=Φ .free)->∃c,X.env.cells.lookup x=Φ c
 cab:∀x c,X.fn x=Γ->X.env.cells.lookup x=Φ c->X.s₀.heap.objs.size<=c
 hd:X.calm=Γ->X.A.handled=Ψ
 frames:X.A.frames=Φ X.stack
 stk:X.stack=X.outer\/(X.stack=X.env::X.outer/\X.env.frame=Φ X.env.locals)
 exf:∀b∈X.ex,b≠X.env.locals/\∀x c,X.env.cells.lookup x=Φ c->c≠b
 bs:∀b o,X.base.get? b=Φ o->X.s₀.heap.get? b=Φ o/\X.H₀ b=Ψ
 bsz:X.base.objs.size<=X.s₀.heap.objs.size
 noex:∀b o,X.base.get? b=Φ o->b∉X.ex
 exfs:∀b∈X.ex,b∉X.fs
 funs:X.s₀.heap.FunFrames X.base X.outer
 frf:∀b∈X.fs,X.H₀ b=Ψ
structure Inv(X:Cx)(pins:List (Addr×Obj))(σ:List (Option V))(H:Hp)(s:Β):Prop where
 ok:X.Ok
 os:s.os=X.s₀.os
 bare:AllBare s.gens
 base:Un X.fs X.ex X.H₀ H X.s₀.heap s.heap
 loc:∃m,s.heap.Ns X.env.locals m/\∀(i:Nat)(x:Str)(v:V),X.N[i]?=Φ x->σ[i]?=Φ (Φ v)->Vis X.env.scope x->∃u,RelV v u/\Look X.env s.heap m x u
 cell:∀x c,X.env.cells.lookup x=Φ c->∃v,s.heap.IsCell c v
 free:H X.env.locals=Ψ
 freeC:∀x c,X.env.cells.lookup x=Φ c->H c=Ψ
 pin:∀p∈X.pn++pins,s.heap.get? p.1=Φ p.2/\H p.1=Ψ/\p.1≠X.env.locals/\p.1∉X.fs/\∀v,p.2.data≠.cell v
 hok:HOk X.prog X.w H s.heap
 len:σ.length=X.N.length
section
variable{X:Cx}{pins:List (Addr×Obj)}{σ:List (Option V)}{H H':Hp}{s:Β}{h':Heap}
def Cx.Ok.nofr(ok:X.Ok)(e:X.base.get? b=Φ o):b∉X.fs:=λa=>by have:=(ok.funs.mem a).1;rw[e]at this;cases this
def Inv.bs(I:Inv X pins σ H s):∀b o,X.base.get? b=Φ o->s.heap.get? b=Φ o/\H b=Ψ:=λb o e=>⟨I.base.keep b o (I.ok.bs b o e).1 (I.ok.bs b o e).2 (I.ok.nofr e) (I.ok.noex b o e),I.base.free b o (I.ok.bs b o e).1 (I.ok.bs b o e).2 (I.ok.noex b o e)⟩
def Inv.bk(I:Inv X pins σ H s):∀b o,X.base.get? b=Φ o->s.heap.get? b=Φ o:=λb o e=>(I.bs b o e).1
def Inv.mod(I:Inv X pins σ H s):Mod X.K X.mg X.base:=I.ok.mod
def Inv.kIn(I:Inv X pins σ H s):X.K.In s.heap:=I.ok.mod.kin.keeps I.bk
def Inv.lt(I:Inv X pins σ H s):X.env.locals<s.heap.objs.size:=let ⟨_,a,_⟩:=I.loc;a.lt
def Inv.sz(I:Inv X pins σ H s):X.s₀.heap.objs.size<=s.heap.objs.size:=le_trans I.ok.above (le_of_lt I.lt)
def Inv.nofs(I:Inv X pins σ H s)(h:s.heap.objs.size<=a):a∉X.fs:=λb=>by let⟨_,o,c,_⟩:=I.ok.funs.mem b;exact absurd (lt_of_lt_of_le (Η c) (le_trans I.sz h)) (lt_irrefl _)
def Inv.cne(I:Inv X pins σ H s):∀x c,X.env.cells.lookup x=Φ c->c≠X.env.locals:=λx c e z=>by let⟨v,o,d,f⟩:=I.cell x c e;let⟨m,⟨g,h,i,a,b,_⟩,_⟩:=I.loc;rw[z,a]at d;cases d;rw[b]at f;cases f
def Inv.funs(I:Inv X pins σ H s):s.heap.FunFrames X.base X.outer:=by
 have a:∀(l:List Env),(∀b∈frs l,b∈X.fs)->X.s₀.heap.FunFrames X.base l->s.heap.FunFrames X.base l:=by intro l;induction l with|nil=>intro _ _;trivial| cons h r i=>intro g j;let⟨k,⟨L,o,c,m,n,p⟩,q⟩:=j;have d:L∈X.fs:=g L (by unfold frs;rw[List.filterMap_cons,c];exact Μ);let⟨t,e⟩:=I.base.slot L o n (I.ok.frf L d) d λz=>I.ok.exfs L z d;exact⟨k,⟨L,_,c,m,e,p⟩,i (λb f=>g b (by unfold frs;rw[List.filterMap_cons,c];exact Κ _ f)) q⟩
 exact a X.outer (λ_ f=>f) I.ok.funs
def Inv.stack(I:Inv X pins σ H s):s.heap.FunFrames X.base X.stack:=by rcases I.ok.stk with e|⟨e,a⟩;rw[e];exact I.funs;rw[e];let⟨m,b,_⟩:=I.loc;refine .cons (by rw[I.ok.kind];decide) a b ?_ I.funs;exact Heap.get?_none_of_le (le_trans I.ok.bsz I.ok.above)
def Inv.stkSub(I:Inv X pins σ H s):∀b∈frs X.stack,b∈X.env.locals::X.fs:=λb a=>by rcases I.ok.stk with e|⟨e,c⟩;rw[e]at a;exact Κ _ a;rw[e]at a;unfold frs at a;rw[List.filterMap_cons,c]at a;exact a
def Inv.stkFree(I:Inv X pins σ H s):∀b∈frs X.stack,H b=Ψ:=λb a=>by rcases mem_cons.mp (I.stkSub b a) with e|a;rw[e];exact I.free;let⟨_,o,c,_⟩:=I.ok.funs.mem a;exact I.base.free b o c (I.ok.frf b a) λz=>I.ok.exfs b z a
def Inv.step{ch:List Addr}(I:Inv X pins σ H s)(f:∀b∈ch,(b∈X.ex\/X.s₀.heap.objs.size<=b)/\b≠X.env.locals/\(∀x c,X.env.cells.lookup x=Φ c->c≠b)/\∀p∈X.pn++pins,p.1≠b)(g:∀b o,b≠X.env.locals->b∉X.fs->b∉ch->s.heap.get? b=Φ o->H b=Ψ->h'.get? b=Φ o)(A:∀b o,b≠X.env.locals->b∈X.fs->b∉ch->s.heap.get? b=Φ o->H b=Ψ->∃T,h'.get? b=Φ {o with slots:=T})(free:∀b o,b∉ch->s.heap.get? b=Φ o->H b=Ψ->H' b=Ψ)(B:∀b o,b∉ch->s.heap.get? b=Φ o->∃G,h'.get? b=Φ G)(J:∀b xs,H b=Φ (.tup xs)->H' b=Φ (.tup xs))(L:∀b o u,H b=Φ (.frz o u)->H' b=Φ (.frz o u))(M:∀b ps,H b=Φ (.tbl ps)->∃N,H' b=Φ (.tbl (ps++N)))(ns:∀m,s.heap.Ns X.env.locals m->h'.Ns X.env.locals m)(hok:HOk X.prog X.w H' h')(hg:AllBare g'):
  Inv X pins σ H' {s with heap:=h',gens:=g',drawn:=d',toks:=t'}:=by
 have O:∀b o,X.s₀.heap.get? b=Φ o->b≠X.env.locals:=λb o e=>ne_of_lt (lt_of_lt_of_le (Η e) I.ok.above);have t:∀b o,X.s₀.heap.get? b=Φ o->b∉X.ex->b∉ch:=λb o e a C=>by rcases(f b C).1 with z|z;exact a z;exact absurd (lt_of_lt_of_le (Η e) z) (lt_irrefl _)
 have h:∀x c,X.env.cells.lookup x=Φ c->∀v,s.heap.IsCell c v->h'.IsCell c v:=λx c e v y=>by let⟨o,E,U⟩:=y;have j:c∉ch:=λz=>(f c z).2.2.1 x c e rfl;by_cases hc:c∈X.fs;let⟨T,q⟩:=A c o (I.cne x c e) hc j E (I.freeC x c e);exact⟨_,q,U⟩;exact⟨o,g c o (I.cne x c e) hc j E (I.freeC x c e),U⟩
 refine⟨I.ok,I.os,hg,⟨λb o e n C a=>?_,λb o e n C a=>?_,λb o e n a=>?_,λb o e a=>?_,λb xs e=>J b xs (I.base.tups b xs e),λb o xs e=>L b o xs (I.base.frzs b o xs e),λb ps e=>?_⟩,?_,λx c e=>?_,?_,λx c e=>?_,λp hp=>?_,hok,I.len⟩;exact g b o (O b o e) C (t b o e a) (I.base.keep b o e n C a) (I.base.free b o e n a);let⟨T,w⟩:=I.base.slot b o e n C a;let⟨Y,Q⟩:=A b _ (O b o e) C (t b o e a) w (I.base.free b o e n a);exact⟨Y,Q⟩;let⟨G,w⟩:=I.base.there b o e a;exact free b G (t b o e a) w (I.base.free b o e n a);let⟨G,w⟩:=I.base.there b o e a;exact B b G (t b o e a) w;let⟨m1,w⟩:=I.base.tbls b ps e;let⟨m2,Q⟩:=M b _ w;exact⟨m1++m2,by rw[Q,Array.append_assoc]⟩;let⟨m,hn,hl⟩:=I.loc;refine⟨m,ns m hn,λi x v w Q e3=>?_⟩;let⟨u,r,l⟩:=hl i x v w Q e3;refine⟨u,r,?_⟩;rcases l with l|⟨k,c,e,z⟩;exact .inl l;exact .inr ⟨k,c,e,h x c e _ z⟩;let⟨v,z⟩:=I.cell x c e;exact⟨v,h x c e v z⟩;let⟨m,⟨o,_,_,E,_⟩,_⟩:=I.loc;exact free _ o (λz=>(f _ z).2.1 rfl) E I.free;let⟨v,o,E,U⟩:=I.cell x c e;exact free c o (λz=>(f c z).2.2.1 x c e rfl) E (I.freeC x c e);let⟨e,n,ne,nf,d⟩:=I.pin p hp;have j:p.1∉ch:=λz=>(f p.1 z).2.2.2 p hp rfl;exact⟨g p.1 p.2 ne nf j e n,free p.1 p.2 j e n,ne,nf,d⟩
def Inv.un(I:Inv X pins σ H s)(u:Un X.fs [] H H' s.heap h')(hok:HOk X.prog X.w H' h'):Inv X pins σ H' {s with heap:=h',toks:=t'}:=by let⟨m,⟨o,k,l,g,r⟩,_⟩:=id I.loc;let⟨p,h⟩:=u.any g I.free (by simp);exact I.step (g':=s.gens) (d':=s.drawn) (ch:=[]) (λ_ z=>by cases z) (λb o _ c _ e n=>u.keep b o e n c (by simp)) (λb o _ c _ e n=>u.slot b o e n c (by simp)) (λb o _ e n=>u.free b o e n (by simp)) (λb o _ e=>u.there b o e (by simp)) u.tups u.frzs u.tbls (λq i=>by let⟨t,d,f,a,j⟩:=i;rw[g]at a;cases a;exact⟨_,d,f,h,j⟩) hok I.bare
def Inv.call(I:Inv X pins σ H s)(u:Un (frs X.stack) ch H H' s.heap h')(hok:HOk X.prog X.w H' h')(k:AllBare g')(d:∀b∈ch,(b∈X.ex\/X.s₀.heap.objs.size<=b)/\b≠X.env.locals/\(∀x c,X.env.cells.lookup x=Φ c->c≠b)/\∀p∈X.pn++pins,p.1≠b):
  Inv X pins σ H' {s with heap:=h',gens:=g',drawn:=d',toks:=t'}:=by
 let⟨m,⟨o,v,w,j,r⟩,_⟩:=id I.loc;let⟨y,g⟩:=u.any j I.free λz=>(d _ z).2.1 rfl;exact I.step (ch:=ch) d (λb o g l a e n=>u.keep b o e n (λz=>(mem_cons.mp (I.stkSub b z)).elim g l) a) (λb o _ _ a e n=>u.any e n a) (λb o a e n=>u.free b o e n a) (λb o a e=>u.there b o e a) u.tups u.frzs u.tbls (λA q=>by let⟨B,h,i,f,t⟩:=q;rw[j]at f;cases f;exact⟨_,h,i,g,t⟩) hok k
def Inv.turned(I:Inv X pins σ H s)(k:∀b o,b≠it->s.heap.get? b=Φ o->h'.get? b=Φ o)(g:H it=Ψ)(f:it≠X.env.locals)(h:it∈X.ex\/X.s₀.heap.objs.size<=it)(i:∀x c,X.env.cells.lookup x=Φ c->c≠it)(j:∀p∈X.pn++pins,p.1≠it):Inv X pins σ H {s with heap:=h',toks:=t'}:=by
 have d:∀b u,H b=Φ u->b≠it:=λb u e z=>by rw[z,g]at e;exact nS e
 refine I.step (g':=s.gens) (d':=s.drawn) (ch:=[it]) (λb l=>?_) (λb o _ _ a e _=>k b o (λz=>a (by simp[z])) e) (λb o _ _ a e _=>⟨o.slots,k b o (λz=>a (by simp[z])) e⟩) (λ_ _ _ _ n=>n)
  (λb o a e=>⟨o,k b o (λz=>a (by simp[z])) e⟩) (λ_ _ e=>e) (λ_ _ _ e=>e) (λb B e=>⟨#[],by rw[e];simp⟩) (λm t=>?_) (λb u e=>?_) I.bare
 have e:b=it:=by simpa using l
 subst e;exact⟨h,f,i,j⟩;let⟨o,w,y,A,r⟩:=t;exact⟨o,w,y,k _ o (Ne.symm f) A,r⟩;refine(I.hok b u e).stay (λc v a q=>k c v ?_ q) (λ_ q=>q) λ_ _ q=>q;rcases a with z|z;rw[z];exact d b u e;exact d c _ z
def Inv.tok(I:Inv X pins σ H s)(t):Inv X pins σ H {s with toks:=t}:=I.un (h':=s.heap) (t':=t) Un.refl I.hok
def Inv.kept(I:Inv X pins σ H s)(k:∀b u,s.heap.get? b=Φ u->h'.get? b=Φ u):Inv X pins σ H {s with heap:=h',toks:=t'}:=I.un (Un.kept k) (I.hok.kept k)
def Inv.laid(I:Inv X pins σ H s)(k:∀b u,s.heap.get? b=Φ u->h'.get? b=Φ u)(c:s.heap.objs.size<=a)(new:ObjOk X.prog X.w (upd H a o) h' a o):
 Inv X pins σ (upd H a o) {s with heap:=h',toks:=t'}:=I.un (Un.laid k c (I.hok.fresh c)) (I.hok.laid k c new)
def Inv.write(I:Inv X pins σ H s)(c:Mut (H x))(d:e=x\/H e=Φ (.own x))(k:∀b u,b≠e->s.heap.get? b=Φ u->h'.get? b=Φ u)(a:∃u,h'.get? e=Φ u)(new:ObjOk X.prog X.w (upd H x o) h' x o):Inv X pins σ (upd H x o) {s with heap:=h',toks:=t'}:=I.un (Un.write c d k a) (I.hok.write c d k a new)
def Inv.pins_of(I:Inv X pins σ H s)(h:∀p∈a,s.heap.get? p.1=Φ p.2/\H p.1=Ψ/\p.1≠X.env.locals/\p.1∉X.fs/\∀v,p.2.data≠.cell v):Inv X a σ H s:=⟨I.ok,I.os,I.bare,I.base,I.loc,I.cell,I.free,I.freeC,λp b=>(mem_append.mp b).elim (λz=>I.pin p (mem_append_left _ z)) (h p),I.hok,I.len⟩
def ziB{N:List Str}(c:N.Nodup){i j:Nat}(a:N[i]?=Φ x)(b:N[j]?=Φ x):i=j:=by let⟨d,e1⟩:=Α.mp a;let⟨e,e2⟩:=Α.mp b;exact(List.getElem_inj c).mp (e1.trans e2.symm)
def zge(I:Inv X pins σ H s)(hN:X.N.Nodup)(O:X.N[i]?=Φ x)(t:Loc X.env.scope x)(r:RelV v u)(h:∀s',Inv X pins (σ.set i (Φ v)) H s'->(∃a,Heap.SameBut a s.heap s'.heap/\(a=X.env.locals\/X.env.cells.lookup x=Φ a))->Q () s')(hf:X.fn x=Γ\/X.env.scope.names.lookup x=Φ .local:=by first|exact .inl rfl|exact .inr rfl|assumption):wpAny M A (storeName X.env x u) Q E s:=by
 let⟨m,hn,hl⟩:=id I.loc;have T:(X.env.scope.kind==.class||(X.env.scope.kind==.module&&X.env.locals != X.env.globals))=Δ:=by rw[I.ok.kind];rfl
 have B:i<σ.length:=by rw[I.len];exact(Α.mp O).1
 have G:=I.cne;have g:∀{a:Addr}{h':Heap},(∃o,s.heap.get? a=Φ o/\H a=Ψ)->Heap.SameBut a s.heap h'->HOk X.prog X.w H h':=λ{a h'} ha f b ob e=>by let⟨_,_,w⟩:=ha;refine(I.hok b ob e).stay (λc w' l q=>(f.2 c ?_).trans q) (λ_ q=>q) λ_ _ q=>q;rintro rfl;rcases l with rfl|l;rw[w]at e;exact nS e;rw[w]at l;exact nS l
 rcases t with C|C;refine wpAny_storeName_local C hn (λh' hn' f=>?_) T;let⟨oL,_,_,hoL,_⟩:=id hn;refine h _ ⟨I.ok,I.os,I.bare,⟨λb o e n J t=>?_,λb o e n J t=>?_,I.base.free,λb o e t=>?_,I.base.tups,I.base.frzs,I.base.tbls⟩,⟨_,hn',λj y v' e1 e2 e3=>?_⟩,λy c e=>?_,I.free,I.freeC,λp hp=>?_,g ⟨oL,hoL,I.free⟩ f,by simpa using I.len⟩ ⟨_,f,.inl rfl⟩;exact(f.2 b (ne_of_lt (lt_of_lt_of_le (Η e) I.ok.above))).trans (I.base.keep b o e n J t);let⟨sl,e1⟩:=I.base.slot b o e n J t;exact⟨sl,(f.2 b (ne_of_lt (lt_of_lt_of_le (Η e) I.ok.above))).trans e1⟩;let⟨o',e1⟩:=I.base.there b o e t;exact⟨o',(f.2 b (ne_of_lt (lt_of_lt_of_le (Η e) I.ok.above))).trans e1⟩;by_cases L:j=i;subst L;rw[O]at e1;cases e1;rw[getElem?_set_self B]at e2;cases e2;exact⟨u,r,.inl ⟨C,by simp⟩⟩;rw[getElem?_set_ne (Ne.symm L)]at e2;let⟨u',r',q⟩:=hl j y v' e1 e2 e3;refine⟨u',r',?_⟩;rcases q with⟨k,e⟩|⟨k,c,e,z⟩;refine .inl ⟨k,?_⟩;have:y≠x:=λe=>L (ziB hN e1 (e▸O));simp[this,e];exact .inr ⟨k,c,e,z.sameBut f (G y c e)⟩;let⟨w',z⟩:=I.cell y c e;exact⟨w',z.sameBut f (G y c e)⟩;let⟨e,n,ne,nf,d⟩:=I.pin p hp;exact⟨(f.2 p.1 ne).trans e,n,ne,nf,d⟩;have N:X.fn x=Γ:=by rcases hf with z|z;exact z;rw[z]at C;cases C
 let⟨c,l⟩:=I.ok.has x (.inl C);let⟨w',z⟩:=I.cell x c l;refine wpAny_storeName_cell I.ok.kind C l z (λh' U f=>?_);let⟨oc,Y,hocd⟩:=id z;refine h {s with heap:=h'} ⟨I.ok,I.os,I.bare,⟨λb o e n J t=>?_,λb o e n J t=>?_,I.base.free,λb o e t=>?_,I.base.tups,I.base.frzs,I.base.tbls⟩,⟨m,hn.sameBut f (Ne.symm (G x c l)),λj y v' e1 e2 e3=>?_⟩,λy c' e=>?_,I.free,I.freeC,λp hp=>?_,g ⟨oc,Y,I.freeC x c l⟩ f,by simpa using I.len⟩ ⟨c,f,.inr l⟩;exact(f.2 b (ne_of_lt (lt_of_lt_of_le (Η e) (I.ok.cab x c N l)))).trans (I.base.keep b o e n J t);let⟨sl,e1⟩:=I.base.slot b o e n J t;exact⟨sl,(f.2 b (ne_of_lt (lt_of_lt_of_le (Η e) (I.ok.cab x c N l)))).trans e1⟩;let⟨o',e1⟩:=I.base.there b o e t;exact⟨o',(f.2 b (ne_of_lt (lt_of_lt_of_le (Η e) (I.ok.cab x c N l)))).trans e1⟩;by_cases L:j=i;subst L;rw[O]at e1;cases e1;rw[getElem?_set_self B]at e2;cases e2;exact⟨u,r,.inr ⟨.inl C,c,l,U⟩⟩;rw[getElem?_set_ne (Ne.symm L)]at e2;let⟨u',r',q⟩:=hl j y v' e1 e2 e3;refine⟨u',r',?_⟩;rcases q with q|⟨k,c',e,z'⟩;exact .inl q;refine .inr ⟨k,c',e,z'.sameBut f ?_⟩;rintro rfl;exact L (ziB hN e1 (I.ok.inj _ _ _ e l▸O));by_cases hcc:c'=c;subst hcc;exact⟨_,U⟩;let⟨w2,z2⟩:=I.cell y c' e;exact⟨w2,z2.sameBut f hcc⟩;let⟨e,n,ne,nf,d⟩:=I.pin p hp;refine⟨(f.2 p.1 ?_).trans e,n,ne,nf,d⟩;intro q;rw[q,Y]at e;have q':oc=p.2:=Option.some.inj e;exact d w' (by rw[<-q'];exact hocd)
def zfk(I:Inv X pins σ H s)(a:X.N.Nodup)(b:X.N[i]?=Φ x)(c:Loc X.env.scope x)(r:RelV v u)(h:∀s',Inv X pins (σ.set i (Φ v)) H s'->Q () s')(d:X.fn x=Γ\/X.env.scope.names.lookup x=Φ .local:=by first|exact .inl rfl|exact .inr rfl|assumption):wpAny M A (storeName X.env x u) Q E s:=
 zge I a b c r (λs' e _=>h s' e) d
def Inv.call'(I:Inv X pins σ H s)(d:s'.os=s.os)(u:Un (frs X.stack) ch H H' s.heap s'.heap)(hok:HOk X.prog X.w H' s'.heap)(f:AllBare s'.gens)(a:∀b∈ch,(b∈X.ex\/X.s₀.heap.objs.size<=b)/\b≠X.env.locals/\(∀x c,X.env.cells.lookup x=Φ c->c≠b)/\∀p∈X.pn++pins,p.1≠b):Inv X pins σ H' s':=by
 let⟨h',g',d',t',g⟩:=s';have e:g=s.os:=d;subst e;exact I.call (g':=g') (t':=t') (d':=d') u hok f a
end
@[reducible]def XK:=Ξ->Option Addr->Hp->Prop
@[reducible]def St:=List (Option V)
@[reducible]def VK:=V->Hp->Prop
@[reducible]def TE:=St->Hp->VK->Prop
@[reducible]def TT:=St->Hp->(Bool->Hp->Prop)->Prop
@[reducible]def TA:=St->Hp->(List V->Hp->Prop)->Prop
structure Ends where
 nx:St->Hp->Prop
 rt:VK
 bk:St->Hp->Prop:=λ_ _=>False
 ct:St->Hp->Prop:=λ_ _=>False
@[reducible]def TS:=Ends->St->Hp->Prop
abbrev EP(X:Cx)(a:List (Addr×Obj))(c:St)(Q:VK)(u:Ξ)(s':Β):Prop:=∃v b,Inv X a c b s'/\RelV v u/\Q v b
abbrev TP(X:Cx)(a:List (Addr×Obj))(d:St)(Q:Bool->Hp->Prop)(b:Bool)(s':Β):Prop:=∃c,Inv X a d c s'/\Q b c
abbrev AP(X:Cx)(a:List (Addr×Obj))(d:St)(Q:List V->Hp->Prop)(us:List Ξ)(s':Β):Prop:=∃b c,Inv X a d c s'/\Vals b us/\Q b c
abbrev SP(X:Cx)(b:List (Addr×Obj))(D:Ends)(f:Flow)(s':Β):Prop:=match f with|.next=>∃a c,Inv X b a c s'/\D.nx a c|.brk=>∃a c,Inv X b a c s'/\D.bk a c|.cont=>∃a c,Inv X b a c s'/\D.ct a c|.ret u=>∃v a c,Inv X b a c s'/\RelV v u/\D.rt v c
abbrev PE(X:Cx)(e:Expr)(t:TE):Prop:=∀(a:List (Addr×Obj))(s:Β)(b:St)(H:Hp)(Q:VK),Inv X a b H s->t b H Q->wpAny (model X.prog X.w) X.A (eval e X.env) (EP X a b Q) X.xe s
abbrev PT(X:Cx)(e:Expr)(t:TT):Prop:=∀(a:List (Addr×Obj))(s:Β)(b:St)(H:Hp)(Q:Bool->Hp->Prop),Inv X a b H s->t b H Q->wpAny (model X.prog X.w) X.A (isTrue e X.env (eval e X.env)) (TP X a b Q) X.xe s
abbrev PW(X:Cx)(e:Expr)(t:TT):Prop:=∀(b:Sem Ξ)(a:List (Addr×Obj))(s:Β)(c:St)(H:Hp)(Q:Bool->Hp->Prop),Inv X a c H s->t c H Q->wpAny (model X.prog X.w) X.A (isTrue e X.env b) (TP X a c Q) X.xe s
def PW.pt(h:PW X e t):PT X e t:=h _
abbrev PA(X:Cx)(es:List Expr)(t:TA):Prop:=∀(pos:Pos)(a:List (Addr×Obj))(s:Β)(b:St)(H:Hp)(Q:List V->Hp->Prop),Inv X a b H s->t b H Q->wpAny (model X.prog X.w) X.A (spliced (backTo pos (starEach es X.env))) (AP X a b Q) X.xe s
abbrev PS(X:Cx)(st:Stmt)(t:TS):Prop:=∀(a:List (Addr×Obj))(s:Β)(b:St)(H:Hp)(D:Ends),Inv X a b H s->t D b H->wpAny (model X.prog X.w) X.A (exec st X.env) (SP X a D) X.xe s
abbrev PSs(X:Cx)(st:List Stmt)(t:TS):Prop:=∀(a:List (Addr×Obj))(s:Β)(b:St)(H:Hp)(D:Ends),Inv X a b H s->t D b H->wpAny (model X.prog X.w) X.A (execs st X.env) (SP X a D) X.xe s
def thn(h:wpAny M A t Q E s)(b:∀a s,Q a s->c a s):wpAny M A t c E s:=ύ h b λ_ _ x=>x
section
variable{X:Cx}
def bin(l:PE X a m)(n:PE X b o){R:V->V->Hp->Prop}(I:Inv X c e H s)(h:m e H λx k=>o e k λy d=>R x y d){Q}{f:Ξ->Ξ->Sem E}(p:∀v u j x y d,Inv X c e d j->RelV x v->RelV y u->R x y d->wpAny (model X.prog X.w) X.A (f v u) Q X.xe j):
  wpAny (model X.prog X.w) X.A (eval a X.env) (λv g=>wpAny (model X.prog X.w) X.A (eval b X.env) (λu i=>wpAny (model X.prog X.w) X.A (f v u) Q X.xe i) X.xe g) X.xe s:=by
 refine thn (l c s e H _ I h) λv q z=>?_;let⟨x,k,r,t,w⟩:=z;refine thn (n c q e k _ r w) λu j z=>?_;let⟨y,d,A,B,C⟩:=z;exact p v u j x y d A t B C
abbrev tVar(i:Nat):TE:=λa H Q=>∃v,a[i]?=Φ (Φ v)/\Q v H
abbrev tC(v:V):TE:=λ_ H Q=>Q v H
def zbW(j:X.N[i]?=Φ x)(k:Vis X.env.scope x)(hd:(x==("__debug__":Str))=Δ:=by decide)(f:(x==("__classdict__":Str))=Δ:=by decide):PE X (.Name x pos) (tVar i):=by intro d s n H Q I h;let⟨v,e,h⟩:=h;let⟨m,o,p⟩:=I.loc;let⟨u,r,l⟩:=p i x v j e k;have fin:EP X d n Q u s:=⟨v,H,I,r,h⟩;rcases l with⟨b,q⟩|⟨b,c,g,a⟩;exact wpAny_Name (wpAny_loadName_local I.ok.kind b o q fin) hd;rcases b with b|b;exact wpAny_Name (wpAny_loadName_cell I.ok.kind b g a fin) hd;exact wpAny_Name (wpAny_loadName_free I.ok.kind b g a fin f) hd
def zgy:PE X (.Constant (.int i) j pos) (tC (.int i)):=λ_ _ _ H _ I h=>wpAny_Constant_int ⟨.int i,H,I.tok _,⟨_,rfl⟩,h⟩
def zuD:PE X (.Constant (.bool b) j pos) (tC (.bl b)):=λ_ _ _ H _ I h=>Constant_bool ⟨.bl b,H,I,rfl,h⟩
def zoJ:PE X (.Constant .none j pos) (tC .non):=λ_ _ _ H _ I h=>Constant_none ⟨.non,H,I,rfl,h⟩
abbrev Gl(X:Cx)(x:Str):Prop:=X.env.kindOf x=Φ .globalImplicit
def zd8(I:Inv X a d H s)(b:Gl X x)(c:X.mg x=Φ u)(h:Q u s)(hd:(x==("__debug__":Str))=Δ:=by decide):wpAny (model X.prog X.w) X.A (eval (.Name x pos) X.env) Q E s:=
 Calls.Name_function_global I.ok.kind b (Calls.loadGlobal_global (by rw[I.ok.glob];exact I.mod.glob.keeps I.bk) c h) hd
def zdl(I:Inv X a i H s)(b:Gl X x)(c:X.mg x=Ψ)(d:bootBuiltins x=Φ u)(h:Q u s)(e:x≠"__name__":=by decide)(hd:(x==("__debug__":Str))=Δ:=by decide):wpAny (model X.prog X.w) X.A (eval (.Name x pos) X.env) Q E s:=by
 let⟨j,f,g⟩:=I.mod.blt;exact Calls.Name_function_global I.ok.kind b (Calls.loadGlobal_builtin (by rw[I.ok.glob];exact I.mod.glob.keeps I.bk) c (by rw[I.ok.blt];exact f.keeps I.bk) ((g x e).trans d) h) hd
def zk5(a:Gl X x)(b:X.mg x=Φ u)(r:RelV v u)(hd:(x==("__debug__":Str))=Δ:=by decide):PE X (.Name x pos) (tC v):=λ_ _ _ H _ I h=>zd8 I a b ⟨v,H,I,r,h⟩ hd
def zqA(a:Gl X x)(b:X.mg x=Ψ)(c:bootBuiltins x=Φ u)(r:RelV v u)(d:x≠"__name__":=by decide)(hd:(x==("__debug__":Str))=Δ:=by decide):PE X (.Name x pos) (tC v):=λ_ _ _ H _ I h=>zdl I a b c ⟨v,H,I,r,h⟩ d hd
variable{a b:Expr}{ta tb:TE}{pos:Pos}
def RelV.none_iff(r:RelV x v):(v==Ξ.none)=decide (x=.non):=by cases x with|non=>cases r;rfl|bl _=>cases r;rfl|int _=>let⟨t,rfl⟩:=r;rfl|str _=>let⟨t,rfl⟩:=r;rfl|byt _=>let⟨t,rfl⟩:=r;rfl|flt _=>let⟨t,rfl⟩:=r;rfl|ref _=>cases r;rfl|ty _=>cases r;rfl
variable{tA tB':TT}{rest:List Expr}
abbrev tAnd(t u:TT):TT:=λd H Q=>t d H λc e=>if c=Γ then u d e Q else Q Δ e
abbrev tOr(t u:TT):TT:=λd H Q=>t d H λc e=>if c=Γ then Q Γ e else u d e Q
abbrev tNot(t:TT):TT:=λd H Q=>t d H λc e=>Q (!c) e
def zqg(f:PT X a tA):PW X (.BoolOp .And [a] pos) tA:=by intro i d s g H Q I h;refine isTrue_and (thn (f d s g H Q I h) λc j e=>?_);cases c with|true=>exact isTrue_and_nil e|false=>exact e
def zsO(f:PT X a tA):PW X (.BoolOp .Or [a] pos) tA:=by intro i d s g H Q I h;refine isTrue_or (thn (f d s g H Q I h) λc j e=>?_);cases c with|false=>exact isTrue_or_nil e|true=>exact e
def zsP(j:PT X a tA)(k:PW X (.BoolOp .And (b::rest) pos) tB'):PW X (.BoolOp .And (a::b::rest) pos) (tAnd tA tB'):=by intro l d s e H Q I h;refine isTrue_and (thn (j d s e H _ I h) λc m z=>?_);let⟨f,g,i⟩:=z;cases c with|true=>exact k l d m e f Q g i|false=>exact⟨f,g,i⟩
def zuy(j:PT X a tA)(k:PW X (.BoolOp .Or (b::rest) pos) tB'):PW X (.BoolOp .Or (a::b::rest) pos) (tOr tA tB'):=by intro l d s e H Q I h;refine isTrue_or (thn (j d s e H _ I h) λc m z=>?_);let⟨f,g,i⟩:=z;cases c with|true=>exact⟨f,g,i⟩|false=>exact k l d m e f Q g i
def zsQ(e:PT X a tA):PT X (.UnaryOp .Not a pos) (tNot tA):=by intro d s f H Q I h;exact isTrue_not (e d s f H (λc g=>Q (!c) g) I h)
abbrev zul(ta tb:TE):TE:=λd H Q=>ta d H λx e=>∃c,x=.bl c/\if c=Γ then tb d e Q else Q (.bl Δ) e
abbrev tOrV(ta tb:TE):TE:=λd H Q=>ta d H λx e=>∃c,x=.bl c/\if c=Γ then Q (.bl Γ) e else tb d e Q
abbrev zuj(ta:TE):TE:=λd H Q=>ta d H λx e=>∃c,x=.bl c/\Q (.bl (!c)) e
def zoI(h:PE X a t):PE X (.BoolOp op [a] pos) t:=λc s d H Q I e=>BoolOp_one (h c s d H Q I e)
def zs3(j:PE X a ta)(k:PE X (.BoolOp .And (b::rest) pos) tb):PE X (.BoolOp .And (a::b::rest) pos) (zul ta tb):=by intro d s f H Q I h;refine BoolOp_and (thn (j d s f H _ I h) λv l z=>?_);let⟨x,g,i,m,e⟩:=z;let⟨c,rfl,e⟩:=e;cases m;refine ϕ ?_;cases c with|true=>exact k d l f g Q i e|false=>exact⟨.bl Δ,g,i,rfl,e⟩
def zuB(j:PE X a ta)(k:PE X (.BoolOp .Or (b::rest) pos) tb):PE X (.BoolOp .Or (a::b::rest) pos) (tOrV ta tb):=by intro d s f H Q I h;refine BoolOp_or (thn (j d s f H _ I h) λv l z=>?_);let⟨x,g,i,m,e⟩:=z;let⟨c,rfl,e⟩:=e;cases m;refine ϕ ?_;cases c with|false=>exact k d l f g Q i e|true=>exact⟨.bl Γ,g,i,rfl,e⟩
def zsY(f:PE X a ta):PE X (.UnaryOp .Not a pos) (zuj ta):=by intro d s g H Q I h;refine UnaryOp_ (thn (f d s g H _ I h) λv l z=>?_);let⟨x,i,j,k,e⟩:=z;let⟨c,rfl,e⟩:=e;cases k;exact not_of (ϕ ⟨.bl (!c),i,j,rfl,e⟩)
abbrev tIf(t:TT)(ta tb:TE):TE:=λd H Q=>t d H λc e=>if c=Γ then ta d e Q else tb d e Q
def znq(l:PT X c tA)(m:PE X a ta)(n:PE X b tb):PE X (.IfExp c a b pos) (tIf tA ta tb):=by intro e s f H Q I h;refine wpAny_IfExp (thn (l e s f H _ I h) λd g z=>?_);let⟨i,j,k⟩:=z;cases d with|true=>exact m e g f i Q j k|false=>exact n e g f i Q j k
end
abbrev SqL(K:Frag)(H:Hp)(a:Addr)(xs:List V):Prop:=
 Rd H a (.lst xs)\/
  ∃(o:Obj) (b:Array Ξ) (n:Nat),K.lookup a=Φ o/\o.cls=.type "list"/\o.dict=Ψ/\o.data=.seq b n/\b.size<=sizeLine/\Vals xs b.toList
abbrev SqT(K:Frag)(H:Hp)(a:Addr)(xs:List V):Prop:=
 Rd H a (.tup xs)\/
  ∃(o:Obj) (b:Array Ξ) (n:Nat),K.lookup a=Φ o/\o.cls=.type "tuple"/\o.data=.seq b n/\b.size<=sizeLine/\Vals xs b.toList
abbrev absV:Ξ->Option V
 |.none=>Φ .non|.bool b=>Φ (.bl b)|.int i _=>Φ (.int i)|.str x _=>Φ (.str x)|.bytes b _=>Φ (.byt b)|.float b _=>Φ (.flt b)|.ref a=>Φ (.ref a)|.type n=>Φ (.ty n)|_=>Ψ
def RelV.abs(r:RelV x u):absV u=Φ x:=by cases x with|non=>cases r;rfl|bl _=>cases r;rfl|int _=>let⟨t,rfl⟩:=r;rfl|str _=>let⟨t,rfl⟩:=r;rfl|byt _=>let⟨t,rfl⟩:=r;rfl|flt _=>let⟨t,rfl⟩:=r;rfl|ref _=>cases r;rfl|ty _=>cases r;rfl
def RelV.inj(r:RelV x u)(q:RelV y u):x=y:=Option.some.inj (r.abs.symm.trans q.abs)
def Vals.inj{xs ys:List V}{us:List Ξ}(h:Vals xs us)(k:Vals ys us):xs=ys:=by induction h generalizing ys with|nil=>cases k;rfl|cons r t i=>cases k with|cons a b=>rw[r.inj a,i b]
section
variable{X:Cx}{pins:List (Addr×Obj)}{σ:St}{H:Hp}{s:Β}{a:Addr}{xs ys:List V}
def SqL.of{K}(h:H a=Φ (.lst xs)):SqL K H a xs:=.inl (.inl h)
def SqT.of{K}(h:H a=Φ (.tup xs)):SqT K H a xs:=.inl (.inl h)
def Inv.list(I:Inv X pins σ H s)(h:SqL X.K H a xs):∃its:List Ξ,Vals xs its/\PlainL s.heap a its.toArray/\xs.length<=sizeLine:=by rcases h with h|⟨o,its,n,b,c,d,f,g,r⟩;let⟨z,its,n,r,e⟩:=h.ok I.hok;exact⟨its,r,⟨_,n,e,rfl,rfl,rfl⟩,z⟩;refine⟨its.toList,r,⟨o,n,I.kIn a o b,c,d,by simpa using f⟩,?_⟩;have e:=r.length;simp![length_toList]at e;lia
def Inv.tuple(I:Inv X pins σ H s)(h:SqT X.K H a xs):∃its:List Ξ,Vals xs its/\IsTup s.heap a its.toArray/\xs.length<=sizeLine:=by rcases h with h|⟨o,its,n,b,c,d,f,r⟩;let⟨z,its,r,p⟩:=h.ok I.hok;exact⟨its,r,p,z⟩;refine⟨its.toList,r,⟨o,I.kIn a o b,c,n,by simpa using d⟩,?_⟩;have e:=r.length;simp![length_toList]at e;lia
def Inv.list_inj(I:Inv X pins σ H s)(h:SqL X.K H a xs)(h':SqL X.K H a ys):xs=ys:=by
 let⟨c,r,⟨o,n,e,_,_,d⟩,_⟩:=I.list h;let⟨b,i,⟨k,l,f,_,_,g⟩,_⟩:=I.list h';rw[e]at f;cases f;rw[d]at g;injection g with j _;have:c=b:=by simpa using congrArg Array.toList j
 subst this;exact r.inj i
def Inv.tuple_inj(I:Inv X pins σ H s)(h:SqT X.K H a xs)(h':SqT X.K H a ys):xs=ys:=by
 let⟨c,r,⟨o,e,_,n,d⟩,_⟩:=I.tuple h;let⟨b,i,⟨k,f,_,l,g⟩,_⟩:=I.tuple h';rw[e]at f;cases f;rw[d]at g;injection g with j _;have:c=b:=by simpa using congrArg Array.toList j
 subst this;exact r.inj i
end
noncomputable abbrev Cx.wish(X:Cx)(E:Ξ->Β->Prop):Cx:={X with xe:=E}
noncomputable abbrev Cx.nox(X:Cx):Cx:=X.wish λ_ _=>False
def Cx.Ok.wish{X:Cx}(ok:X.Ok)(E):(X.wish E).Ok:=⟨ok.mod,ok.kind,ok.glob,ok.blt,ok.above,ok.inj,ok.has,ok.cab,ok.hd,ok.frames,ok.stk,ok.exf,ok.bs,ok.bsz,ok.noex,ok.exfs,ok.funs,ok.frf⟩
def Cx.Ok.unwish{X:Cx}(ok:(X.wish E).Ok):X.Ok:=⟨ok.mod,ok.kind,ok.glob,ok.blt,ok.above,ok.inj,ok.has,ok.cab,ok.hd,ok.frames,ok.stk,ok.exf,ok.bs,ok.bsz,ok.noex,ok.exfs,ok.funs,ok.frf⟩
section
variable{X:Cx}{pins:List (Addr×Obj)}{σ:St}{H:Hp}{s:Β}{E:Ξ->Β->Prop}
def Inv.wish(I:Inv X pins σ H s)(E):Inv (X.wish E) pins σ H s:=⟨I.ok.wish E,I.os,I.bare,I.base,I.loc,I.cell,I.free,I.freeC,I.pin,I.hok,I.len⟩
def Inv.unwish(I:Inv (X.wish E) pins σ H s):Inv X pins σ H s:=⟨I.ok.unwish,I.os,I.bare,I.base,I.loc,I.cell,I.free,I.freeC,I.pin,I.hok,I.len⟩
def SP.unwish(h:SP (X.wish E) pins D f s'):SP X pins D f s':=by cases f with|next=>let⟨a,b,I,q⟩:=h;exact⟨a,b,I.unwish,q⟩|brk=>let⟨a,b,I,q⟩:=h;exact⟨a,b,I.unwish,q⟩|cont=>let⟨a,b,I,q⟩:=h;exact⟨a,b,I.unwish,q⟩|ret u=>let⟨v,a,b,I,r,q⟩:=h;exact⟨v,a,b,I.unwish,r,q⟩
def PE.nox(h:PE X.nox e t):PE X e t:=λpins s σ H Q I a=>ύ (h pins s σ H Q (I.wish _) a) (λ_ _ k=>(by let⟨v,b,c,r,q⟩:=k;exact ⟨v,b,c.unwish,r,q⟩)) λ_ _ z=>False.elim z
def PSs.nox{st}(h:PSs X.nox st t):PSs X st t:=λpins s σ H D I a=>ύ (h pins s σ H D (I.wish _) a) (λ_ _ q=>q.unwish) λ_ _ z=>False.elim z
end
section
variable{X:Cx}{st:Stmt}{rest:List Stmt}{t u:TS}{e:Expr}{te:TE}{pos:Pos}
abbrev zr2:TS:=λD a H=>D.nx a H
abbrev tSeq(t u:TS):TS:=λD a H=>t {D with nx:=u D} a H
def zkR:PSs X [] zr2:=λ_ _ a H _ I h=>wpAny_execs_nil ⟨a,H,I,h⟩
def zaP(c:PS X st t)(d:PSs X rest u):PSs X (st::rest) (tSeq t u):=by intro a s g H D I h;refine wpAny_execs_cons (thn (c a s g H {D with nx:=u D} I h) λf i q=>?_);cases f with| next=>let⟨b,j,k,q⟩:=q;exact d a i b j D k q|ret v=>exact q|brk=>exact q|cont=>exact q
def zfx(b:PS X st t):PSs X [st] t:=by intro a s c H D I h;refine wpAny_execs_cons (thn (b a s c H D I h) λf d q=>?_);cases f with|next=>exact wpAny_execs_nil q|ret v=>exact q|brk=>exact q|cont=>exact q
def Inv.quiet(I:Inv X a b H s):interactive X.env=Δ:=by simp[interactive,I.ok.kind]
abbrev zuk(te:TE):TS:=λD a H=>te a H λ_ b=>D.nx a b
def zqn(c:PE X e te)(hs:swapsWith e Ψ pos.line X.env=pure Δ:=by rfl):PS X (.Expr e pos) (zuk te):=by intro a s b H D I h;exact wpAny_Expr_any (thn (c a s b H _ I h) λv i z=>(by let⟨x,d,f,j,g⟩:=z;exact ⟨b,d,f,g⟩)) I.quiet hs
abbrev tRet(te:TE):TS:=λD a H=>te a H D.rt
def zkT(c:PE X e te):PS X (.Return (Φ e) pos) (tRet te):=by intro a s b H D I h;exact wpAny_Return_some (thn (c a s b H _ I h) λv j z=>(by let⟨x,d,f,g,i⟩:=z;exact ⟨x,b,d,f,g,i⟩))
abbrev zui:TS:=λD _ H=>D.rt .non H
def zqm:PS X (.Return Ψ pos) zui:=λ_ _ a H _ I h=>wpAny_Return_none ⟨.non,a,H,I,rfl,h⟩
abbrev tIfS(c:TT)(t u:TS):TS:=λD a H=>c a H λb d=>if b=Γ then t D a d else u D a d
def zsR(m:PT X c n)(o:PSs X a t)(p:PSs X b u):PS X (.If c a b pos) (tIfS n t u):=by intro f s g H D I h;refine wpAny_If (thn (m f s g H _ I h) λd i z=>?_);let⟨j,k,l⟩:=z;cases d with|true=>exact o f i g j D k l|false=>exact p f i g j D k l
end
@[reducible]def TG:=V->St->Hp->(St->Hp->Prop)->Prop
@[reducible]def TGs:=List V->St->Hp->(St->Hp->Prop)->Prop
abbrev PG(X:Cx)(a:Expr)(t:TG):Prop:=
 ∀(b:List (Addr×Obj))(s:Β)(d:St)(H:Hp)(v:V)(u:Ξ)(Q:St->Hp->Prop),Inv X b d H s->RelV v u->t v d H Q->
  wpAny (model X.prog X.w) X.A (assign a X.env u) (λ_ f=>∃c e,Inv X b c e f/\Q c e) X.xe s
abbrev PGs(X:Cx)(ts:List Expr)(t:TGs):Prop:=
 ∀(a:List (Addr×Obj))(s:Β)(c:St)(H:Hp)(d:List V)(e:List Ξ)(Q:St->Hp->Prop),Inv X a c H s->Vals d e->t d c H Q->
  wpAny (model X.prog X.w) X.A (assignInOrder ((assignEach ts X.env).map (·.2)) e) (λ_ g=>∃b f,Inv X a b f g/\Q b f) X.xe s
section
variable{X:Cx}{pos:Pos}
abbrev zfU(i:Nat):TG:=λv a H Q=>Q (a.set i (Φ v)) H
def zhF(b:X.N.Nodup)(c:X.N[i]?=Φ x)(d:Loc X.env.scope x)(e:X.fn x=Γ\/X.env.scope.names.lookup x=Φ .local:=by first|exact .inl rfl|exact .inr rfl|assumption):PG X (.Name x pos) (zfU i):=by intro a s g H v u Q I r h;exact wpAny_assign_Name (zfk I b c d r (λj f=>⟨_,H,f,h⟩) e)
abbrev gNil:TGs:=λa b H Q=>a=[]/\Q b H
abbrev zuX(t:TG)(u:TGs):TGs:=λb c H Q=>∃v r,b=v::r/\t v c H λa d=>u r a d Q
def zqu:PGs X [] gNil:=by intro a s b H c d Q I r h;let⟨e,h⟩:=h;subst e;cases r;exact assignInOrder_nil ⟨b,H,I,h⟩
def znj(c:PG X e t)(d:PGs X es u)(hs:(assignEach (e::es) X.env).map (·.2)=assign e X.env::(assignEach es X.env).map (·.2):=by rfl):PGs X (e::es) (zuX t u):=by
 intro a s f H m n Q I r h;let⟨v,o,e1,h⟩:=h;subst e1;cases r with| cons r g=>rw[hs];refine assignInOrder_cons (thn (c a s f H _ _ _ I r h) λ_ i z=>?_);let⟨b,j,k,l⟩:=z;exact d a i b j _ _ Q k g l
abbrev gTup(K:Frag)(n:Nat)(t:TGs):TG:=λv c H Q=>∃a b,v=.ref a/\SqT K H a b/\b.length=n/\t b c H Q
def zsV(j:X.calm=Γ)(h:PGs X es t)(l:(assignEach es X.env).length=n:=by rfl)(d:(assignEach es X.env).findIdx? (·.1)=Ψ:=by rfl):PG X (.Tuple es k pos) (gTup X.K n t):=by
 intro c s g H v u Q I r f;let⟨a,m,p,q,w,f⟩:=f;subst p;cases r;let⟨x,i,y,C⟩:=I.tuple q;refine assign_Tuple_tuple (I.ok.hd j) y (by simp[l,<-w,i.length]) d λz A=>?_;have B:Inv X c g H {s with heap:=z}:=I.kept (t':=s.toks) λb o e=>A b o (ne_of_lt (Η e)) e;exact h c _ g H m _ Q B (by simpa using i) f
abbrev tAsg(b:TE)(g:TG):TS:=λD a H=>b a H λx c=>g x a c D.nx
def zsT(d:PE X e f)(i:PG X b g)(hs:swapsWithSole [b] e pos.line X.env=pure Δ:=by rfl)(j:swappedStores [b] e X.env=pure Ψ:=by rfl)(k:(assignEach [b] X.env).map (·.2)=[assign b X.env]:=by rfl):PS X (.Assign [b] e pos) (tAsg f g):=by
 intro a s c H D I h;refine wpAny_Assign_stores (thn (d a s c H _ I h) λv l z=>?_) hs j;let⟨x,m,n,o,p⟩:=z;rw[k];exact thn (i a l c m x v _ n o p) λ_ r q=>q
def zkS(c:X.N.Nodup)(d:X.N[i]?=Φ x)(f:Loc X.env.scope x)(g:PE X e j)(hs:swapsWith e (Φ (.Name x a)) pos.line X.env=pure Δ:=by rfl)(k:X.fn x=Γ\/X.env.scope.names.lookup x=Φ .local:=by first|exact .inl rfl|exact .inr rfl|assumption):
  PS X (.Assign [.Name x a] e pos) (tAsg j (zfU i)):=by
 intro b s l H D I h;refine wpAny_Assign_Name (thn (g b s l H _ I h) λv r z=>?_) hs;let⟨y,m,n,o,p⟩:=z;exact zfk n c d f o (λt q=>⟨_,m,q,p⟩) k
end
structure It where
 go:Nat->Hp->Prop
 yld:Nat->Hp->V->Hp->Prop
 stop:Nat->Hp->Prop
abbrev FpOk(X:Cx)(a:List (Addr×Obj))(H:Hp)(b:Addr):Prop:=H b=Ψ/\b≠X.env.locals/\b∉X.fs/\(b∈X.ex\/X.s₀.heap.objs.size<=b)/\(∀x c,X.env.cells.lookup x=Φ c->c≠b)/\∀p∈X.pn++a,p.1≠b
def Inv.fpOk(I:Inv X a h H s)(d:s.heap.objs.size<=b)(f:H' b=Ψ):FpOk X a H' b:=by refine⟨f,ne_of_gt (lt_of_lt_of_le I.lt d),I.nofs d,.inr (le_trans I.sz d),λx c e z=>?_,λp g z=>?_⟩;let⟨v,q⟩:=I.cell x c e;exact absurd (lt_of_lt_of_le q.lt (by rw[z];exact d)) (lt_irrefl _);exact absurd (lt_of_lt_of_le (Η (I.pin p g).1) (by rw[z];exact d)) (lt_irrefl _)
structure Turn(P:ϊ)(w:ό)(K:Frag)(tg:Expr)(J:It)(fp:List Addr)(it:Addr)(tn:Nat->Heap->Prop):Prop where
 mem:it∈fp
 obj:∀i h,tn i h->∀b∈fp,∃o,h.get? b=Φ o/\∀v,o.data≠.cell v
 keep:∀i h h',tn i h->(∀b∈fp,∀o,h.get? b=Φ o->h'.get? b=Φ o)->tn i h'
 item:∀(X:Cx),X.prog=P->X.w=w->X.K=K->X.calm=Γ->∀(i:Nat)(pins:List (Addr×Obj))(s:Β)(σ:St)(H:Hp)(E:Ξ->Β->Prop),Inv X pins σ H s->(∀b∈fp,FpOk X pins H b)->tn i s.heap->J.go i H->
  wpAny (model P w) X.A (pyNext (.ref it)) (λr s1=>∃u,r=Φ u/\
   wpAny (model P w) X.A (letOwnedTupleGo tg (.ref it) u) (λ_ s2=>∃x H',Inv X pins σ H' s2/\RelV x u/\J.yld i H x H'/\tn (i+1) s2.heap/\∀b∈fp,H' b=Ψ) E s1) E s
 done:∀(X:Cx),X.prog=P->X.w=w->X.K=K->X.calm=Γ->∀(i:Nat)(pins:List (Addr×Obj))(s:Β)(σ:St)(H:Hp)(E:Ξ->Β->Prop),Inv X pins σ H s->(∀b∈fp,FpOk X pins H b)->tn i s.heap->J.stop i H->
  wpAny (model P w) X.A (pyNext (.ref it)) (λr s1=>r=Ψ/\Inv X pins σ H s1) E s
 self:∀(A:ϐ)(i:Nat)(s:Β)(Q:Ξ->Β->Prop)(E:Ξ->Β->Prop),tn i s.heap->Q (.ref it) s->wpAny (model P w) A (pyIter (.ref it)) Q E s
@[reducible]def TI:=St->Hp->(It->Hp->Prop)->Prop
abbrev PIE(X:Cx)(a:List (Addr×Obj))(i:St)(j:Expr)(R:It->Hp->Prop)(c:Ξ)(e:Β):Prop:=∃(f:Addr) (g:List Addr) (h:Nat->Heap->Prop) (J:It) (d:Hp),c=.ref f/\Inv X a i d e/\Turn X.prog X.w X.K j J g f h/\h 0 e.heap/\(∀b∈g,FpOk X a d b)/\R J d
abbrev PI(X:Cx)(d b:Expr)(e:TI):Prop:=
 ∀(a:List (Addr×Obj))(s:Β)(c:St)(H:Hp)(R:It->Hp->Prop),Inv X a c H s->e c H R->
  wpAny (model X.prog X.w) X.A (eval b X.env) (λv f=>wpAny (model X.prog X.w) X.A (pyIter v) (PIE X a c d R) X.xe f) X.xe s
def zq6(b:s.heap.get? it=Φ o)(c:o.cls=.type n)(hd:o.data=.fields vs)(d:["enumerate","zip","dict_itemiterator","dict_reverseitemiterator","odict_iterator","itertools.zip_longest","itertools.pairwise"].contains n=Δ)(a:Q () s):wpAny M A (letOwnedTupleGo e (.ref it) u) Q E s:=by
 unfold letOwnedTupleGo;cases e<;>first
  |exact Ω a
  |(cases u<;>first
   |exact Ω a
   | (refine Θ (wpAny_load b ?_)
      rw[c,hd];show wpAny M A (if(["enumerate","zip","dict_itemiterator","dict_reverseitemiterator","odict_iterator","itertools.zip_longest","itertools.pairwise"].contains n&&vs[0]?==Φ (rawInt _))=Γ then _ else _) Q E s;rw[if_neg (by intro h;rw[d,Bool.false_and]at h;exact nB h)];exact Ω a))
abbrev Itl(K:Frag)(a:Addr):It:=⟨λi H=>∃b x,SqL K H a b/\b[i]?=Φ x,λi H x c=>c=H/\∀b,SqL K H a b->b[i]?=Φ x,λi H=>∃b,SqL K H a b/\b.length<=i⟩
abbrev Itt(K:Frag)(a:Addr):It:=⟨λi H=>∃b x,SqT K H a b/\b[i]?=Φ x,λi H x c=>c=H/\∀b,SqT K H a b->b[i]?=Φ x,λi H=>∃b,SqT K H a b/\b.length<=i⟩
abbrev Itr(lo:Int)(n:Nat):It:=⟨λi _=>i<n,λi H x a=>a=H/\x=.int (lo+i),λi _=>n<=i⟩
def zgc{P:ϊ}{w:ό}{K:Frag}{tg:Expr}(a it:Addr):Turn P w K tg (Itl K a) [it] it (λi h=>h.IsListIter it a i) where
 mem:=by simp
 obj:=λi h st b hb=>by
  have e:b=it:=by simpa using hb
  subst e;let⟨o,e,c,d⟩:=st;exact⟨o,e,λv z=>by rw[d]at z;cases z⟩
 keep:=λi h h' st k=>st.at λo e=>k it (by simp) o e
 item:=by intro X hP hw hK hc i pins s σ H E I hf st hg;subst hP hw hK;let⟨xs,x,hq,hx⟩:=hg;let⟨its,rv,p,hz⟩:=I.list hq;let⟨u,hu,ru⟩:=rv.get hx;let⟨f0,f1,f2,f3,f4,f5⟩:=hf it (by simp);refine wpAny_pyNext_list_item st p.isList (x:=u) (by simpa using hu) λh' st' sb=>?_;have I1:Inv X pins σ H {s with heap:=h'}:=I.turned (t':=s.toks) (λb o hb e=>(sb.2 b hb).trans e) f0 f1 f3 f4 f5;let⟨o,e,c,d⟩:=id st';exact⟨u,rfl,zq6 (s:={s with heap:=h'}) e c d (by decide) ⟨x,H,I1,ru,⟨rfl,λys hy=>by rw[I.list_inj hy hq];exact hx⟩,st',λb hb=>(hf b hb).1⟩⟩
 done:=by intro X hP hw hK hc i pins s σ H E I hf st hg;subst hP hw hK;let⟨xs,hq,hx⟩:=hg;let⟨its,rv,p,hz⟩:=I.list hq;let⟨f0,f1,f2,f3,f4,f5⟩:=hf it (by simp);have hl:=rv.length;exact wpAny_pyNext_list_end (I.ok.hd hc) st p.isList (by simp;lia) λh' eb=>⟨rfl,I.turned (t':=s.toks) (λb o hb e=>eb b o hb e) f0 f1 f3 f4 f5⟩
 self:=λ_ _ _ _ _ st h=>wpAny_pyIter_listiter st h
def zja{P:ϊ}{w:ό}{K:Frag}{tg:Expr}(a it:Addr):Turn P w K tg (Itt K a) [it] it (λi h=>h.IsTupleIter it a i) where
 mem:=by simp
 obj:=λi h st b hb=>by
  have e:b=it:=by simpa using hb
  subst e;let⟨o,e,c,d⟩:=st;exact⟨o,e,λv z=>by rw[d]at z;cases z⟩
 keep:=λi h h' st k=>st.at λo e=>k it (by simp) o e
 item:=by intro X hP hw hK hc i pins s σ H E I hf st hg;subst hP hw hK;let⟨xs,x,hq,hx⟩:=hg;let⟨its,rv,p,hz⟩:=I.tuple hq;let⟨u,hu,ru⟩:=rv.get hx;let⟨f0,f1,f2,f3,f4,f5⟩:=hf it (by simp);refine wpAny_pyNext_tuple_item st (show s.heap.IsTuple a its.toArray from p) (x:=u) (by simpa using hu) λh' st' sb=>?_;have I1:Inv X pins σ H {s with heap:=h'}:=I.turned (t':=s.toks) (λb o hb e=>(sb.2 b hb).trans e) f0 f1 f3 f4 f5;let⟨o,e,c,d⟩:=id st';exact⟨u,rfl,zq6 (s:={s with heap:=h'}) e c d (by decide) ⟨x,H,I1,ru,⟨rfl,λys hy=>by rw[I.tuple_inj hy hq];exact hx⟩,st',λb hb=>(hf b hb).1⟩⟩
 done:=by intro X hP hw hK hc i pins s σ H E I hf st hg;subst hP hw hK;let⟨xs,hq,hx⟩:=hg;let⟨its,rv,p,hz⟩:=I.tuple hq;let⟨f0,f1,f2,f3,f4,f5⟩:=hf it (by simp);have hl:=rv.length;exact wpAny_pyNext_tuple_end (I.ok.hd hc) st (show s.heap.IsTuple a its.toArray from p) (by simp;lia) λh' eb=>⟨rfl,I.turned (t':=s.toks) (λb o hb e=>eb b o hb e) f0 f1 f3 f4 f5⟩
 self:=λ_ _ _ _ _ st h=>wpAny_pyIter_tupleiter st h
def zjb{P:ϊ}{w:ό}{K:Frag}{G:Expr}(it:Addr)(lo:Int)(n:Nat):Turn P w K G (Itr lo n) [it] it (λi h=>IsRangeIter h it (lo+(i:Nat)*1) ((n:Int)-(i:Nat)) 1) where
 mem:=by simp
 obj:=λi h st b c=>by
  have e:b=it:=by simpa using c
  subst e;exact⟨_,st,λv z=>by have J:Data.fields _=Data.cell v:=z;cases J⟩
 keep:=λi h f st k=>k it (by simp) _ st
 item:=by intro X j l m p i a s B H E I g st q;subst j l m;let⟨r,u,L,x,y,A⟩:=g it (by simp);have W:=Walks.range (prog:=X.prog) (w:=X.w) (I.ok.hd p) it lo 1 n;refine W.item i s _ _ q st λv f C M d N=>?_;let⟨t,rfl⟩:=M;have O:Inv X a B H {s with heap:=f,toks:=C}:=I.turned (λb o c e=>N b o (by simpa using c) e) r u x y A;refine⟨_,rfl,zq6 (s:={s with heap:=f,toks:=C}) (n:="range_iterator") d rfl rfl (by decide) ⟨.int (lo+i),H,O,⟨t,?_⟩,⟨rfl,rfl⟩,d,λb c=>(g b c).1⟩⟩;rw[Int.mul_one]
 done:=by intro X j l m p i a s B H E I g st q;subst j l m;let⟨r,u,L,x,y,A⟩:=g it (by simp);exact wpAny_pyNext_range_end (I.ok.hd p) st (by have:n<=i:=q;lia) λf Q=>⟨rfl,I.turned (t':=s.toks) (λb o c e=>Q b o c e) r u x y A⟩
 self:=λ_ _ _ _ _ st h=>wpAny_pyIter_rangeiter st h
section
variable{X:Cx}{tg:Expr}
abbrev zq4(K:Frag)(c:TE):TI:=λd H R=>c d H λx b=>∃a,x=.ref a/\(∃e,SqL K b a e)/\R (Itl K a) b
def zqs(g:PE X l i):PI X tg l (zq4 X.K i):=by
 intro c s j H R I h;refine thn (g c s j H _ I h) λv d z=>?_;let⟨x,k,f,m,n⟩:=z;let⟨a,e,⟨w,r⟩,q⟩:=n;subst e;cases m;let⟨t,y,p,A⟩:=f.list r;refine wpAny_pyIter_list p.isList ?_;refine⟨d.heap.objs.size,[d.heap.objs.size],_,_,k,rfl,f.kept (t':=d.toks) λb o e=>Λ _ e,zgc a _,⟨_,Ζ _ rfl,rfl,rfl⟩,λb u=>?_,q⟩;have e:b=d.heap.objs.size:=by simpa using u
 subst e;exact f.fpOk (le_refl _) (f.hok.fresh (le_refl _))
def ziu{lo a}(I:Inv X c f H s)(g:-(2^62)<=lo)(h:lo<2^62)(i:-(2^62)<=a)(j:a<2^62)(q:R (Itr lo (a-lo).toNat) H):wpAny (model X.prog X.w) X.A (pyIter (.ref s.heap.objs.size)) (PIE X c f tg R) E {s with heap:=s.heap.push {cls:=.type "range",data:=.fields #[.int lo t,.int a u,.int 1 v]},toks:=tk}:=by
 refine wpAny_pyIter_range (IsRange.new ..) (small_one g h i j) ?_;have d:Inv X c f H {s with heap:=s.heap.push {cls:=.type "range",data:=.fields #[.int lo t,.int a u,.int 1 v]},toks:=tk}:=I.kept λb o e=>Λ _ e;refine⟨(s.heap.push {cls:=.type "range",data:=.fields #[.int lo t,.int a u,.int 1 v]}).objs.size,[(s.heap.push {cls:=.type "range",data:=.fields #[.int lo t,.int a u,.int 1 v]}).objs.size],_,_,H,rfl,
  d.kept (t':=tk) λb o e=>Λ _ e,zjb _ lo (a-lo).toNat,?_,λb k=>?_,q⟩
 have l:lo+((0:Nat):Int)*1=lo:=by simp
 have m:(((a-lo).toNat:Nat):Int)-((0:Nat):Int)=Builtin.Range.rangeSize lo a 1:=by rw[rangeSize_one];split<;>lia
 show IsRangeIter _ _ (lo+((0:Nat):Int)*1) ((((a-lo).toNat:Nat):Int)-((0:Nat):Int)) 1;rw[l,m];exact Ζ _ rfl;have e:b=(s.heap.push {cls:=.type "range",data:=.fields #[.int lo t,.int a u,.int 1 v]}).objs.size:=by simpa using k
 subst e;exact d.fpOk (le_refl _) (d.hok.fresh (le_refl _))
abbrev zuU(a:TA):TI:=λb H R=>a b H λc d=>∃j:Int,c=[.int j]/\-(2^62)<=j/\j<2^62/\R (Itr 0 j.toNat) d
abbrev zuT(a:TA):TI:=λb H R=>a b H λc d=>∃i j:Int,c=[.int i,.int j]/\(-(2^62)<=i/\i<2^62/\-(2^62)<=j/\j<2^62)/\R (Itr i (j-i).toNat) d
def zk1(d:Gl X "range")(f:X.mg "range"=Ψ)(g:PA X [a] i)(hs:starEach [a] X.env=[(Δ,eval a X.env)]:=by rfl):PI X tg (.Call (.Name "range" p) [a] [] pos) (zuU i):=by intro b s k H R I h;refine Call_ (zdl I d f boot_range (PyProof.Rows.callWith_type1 (thn (g pos b s k H _ I h) λu v z=>?_) hs rfl));let⟨w,x,l,m,c⟩:=z;let⟨j,e,c,n,q⟩:=c;subst e;cases m with| cons r o=>cases o;let⟨t,rfl⟩:=r;exact call_range_1 (ziu l (by lia) (by lia) c n (by simpa using q))
def zk0(k:Gl X "range")(l:X.mg "range"=Ψ)(m:PA X [a,b] n)(hs:starEach [a,b] X.env=[(Δ,eval a X.env),(Δ,eval b X.env)]:=by rfl)(c:starEach [b] X.env=[(Δ,eval b X.env)]:=by rfl):
  PI X tg (.Call (.Name "range" p) [a,b] [] pos) (zuT n):=by
 intro d s o H R I h;refine Call_ (zdl I k l boot_range (PyProof.Rows.callWith_type1 (thn (m pos d s o H _ I h) λA B ⟨C,E,u,v,f⟩=>?_) (by rw[hs,c]) (by rw[c];rfl)));let⟨i,j,e,⟨f,w,x,y⟩,q⟩:=f;subst e;cases v with| cons r g=>cases g with| cons z g=>cases g;let⟨t,rfl⟩:=r;let⟨G,rfl⟩:=z;exact call_range_2 (ziu u f w x y q)
abbrev tFor(f:TI)(g:TG)(h:TS):TS:=λD a H=>f a H λJ j=>∃W:Nat->Nat->St->Hp->Prop,(∃m,W 0 m a j)/\∀i m a H,W i m a H->
 (J.stop i H/\D.nx a H)\/(J.go i H/\∃N:St->Hp->Prop,(∀b c,N b c->∃e,e<m/\W (i+1) e b c)/\∀x c,J.yld i H x c->g x a c λd k=>h {D with nx:=N,ct:=N,bk:=D.nx} d k)
abbrev zgx(a:List Addr)(h:Heap):List (Addr×Obj):=a.filterMap λb=>(h.get? b).map λo=>(b,o)
def zcn(a:b∈c)(e:h.get? b=Φ o):(b,o)∈zgx c h:=List.mem_filterMap.mpr ⟨b,a,by rw[e];rfl⟩
def zk8(a:p∈zgx c h):p.1∈c/\h.get? p.1=Φ p.2:=by
 let⟨b,d,e⟩:=List.mem_filterMap.mp a;cases q:h.get? b with
 |none=>rw[q]at e;exact nS e
 |some o=>rw[q]at e;have f:(b,o)=p:=Option.some.inj e;subst f;exact⟨d,q⟩
def Inv.pinned(I:Inv X a h H s)(i:∀b∈c,FpOk X a H b)(j:∀b∈c,∃o,s.heap.get? b=Φ o/\∀v,o.data≠.cell v):Inv X (a++zgx c s.heap) h H s:=I.pins_of λp k=>(mem_append.mp k).elim (λz=>I.pin p (mem_append_right _ z)) λz=>by let⟨f,e⟩:=zk8 z;let⟨l,m,n,_⟩:=i p.1 f;let⟨o,g,d⟩:=j p.1 f;rw[e]at g;cases g;exact⟨e,l,m,n,d⟩
def Inv.unpinned(I:Inv X (a++d) b H s):Inv X a b H s:=I.pins_of λp c=>I.pin p (mem_append_right _ (mem_append_left _ c))
def zoF(G:PassesOwn (model X.prog X.w) X.A X.env X.xe)(hc:X.calm=Γ)(hi:PI X tg A wi)(hg:PG X tg g)(j:PSs X body tb)(hs:∀x,foldedSetIterable A X.env x=pure x:=by intro _;rfl):PS X (.For tg A body [] pos) (tFor wi g tb):=by
 intro a s σ H D I h;refine wpAny_For (thn (hi a s σ H _ I h) λv s1 h1=>thn h1 λitv s2 h2=>?_) hs;let⟨it,L,tn,J,H2,e,I2,T,st2,f2,W,⟨m0,w0⟩,M⟩:=h2;subst e
 -- what stays Γ of the B O through the loop
 have l:∀{y:Hp},(∀b∈L,y b=Ψ)->∀b∈L,FpOk X a y b:=λhn b j=>⟨hn b j,(f2 b j).2⟩;refine codeAny_forLoop_any (λn s'=>∃i p y,Inv X a p y s'/\tn i s'.heap/\(∀b∈L,y b=Ψ)/\W i n p y) ?_ m0 ⟨0,σ,H2,I2,st2,λb j=>(f2 b j).1,w0⟩;rintro n s3 ⟨i,q,H3,I3,Q,U,w3⟩;rcases M i n q H3 w3 with⟨stop,qn⟩|⟨go,N,hN,step⟩;refine wpAny_passesOwn G (thn (T.done X rfl rfl rfl hc i a s3 q H3 X.xe I3 (l U) Q stop) λr s4 k=>?_);let⟨hr,I4⟩:=k;subst hr;exact wpAny_execs_nil ⟨q,H3,I4,qn⟩;refine wpAny_passesOwn G (thn (T.item X rfl rfl rfl hc i a s3 q H3 X.xe I3 (l U) Q go) λr s4 z=>?_);let⟨u,hr,h4⟩:=z;subst hr;refine wpAny_passesOwn G (thn h4 λ_ s5 z=>?_);let⟨x,H5,I5,r5,y5,E,fr5⟩:=z;have I5':=I5.pinned (l fr5) (T.obj _ _ E);refine wpAny_passesOwn G (thn (hg _ s5 q H5 x u _ I5' r5 (step x H5 y5)) λ_ s6 z=>?_);let⟨σ6,H6,I6,q6⟩:=z;refine wpAny_passesOwn G (thn (j _ s6 σ6 H6 _ I6 q6) λf s7 C=>?_);have again:∀{c:St}{t:Hp},Inv X (a++zgx L s5.heap) c t s7->N c t->∃m,m<n/\∃i p y,Inv X a p y s7/\tn i s7.heap/\(∀b∈L,y b=Ψ)/\W i m p y:=λ{c t} w Y=>by let⟨m',hm,w7⟩:=hN c t Y;refine⟨m',hm,i+1,c,t,w.unpinned,T.keep _ _ _ E λb j o e=>(w.pin (b,o) (mem_append_right _ (mem_append_right _ (zcn j e)))).1,λb j=>?_,w7⟩;let⟨o,e,d⟩:=T.obj _ _ E b j;exact(w.pin (b,o) (mem_append_right _ (mem_append_right _ (zcn j e)))).2.1
 cases f with|next=>let⟨c,t,w,Y⟩:=C;exact again w Y|cont=>let⟨c,t,w,Y⟩:=C;exact again w Y|brk=>let⟨c,t,w,C⟩:=C;exact⟨c,t,w.unpinned,C⟩|ret v=>let⟨x7,c,t,w,r7,C⟩:=C;exact⟨x7,c,t,w.unpinned,r7,C⟩
end
def znW{K}{g:TG}{j:TS}{D:Ends}(Pv:Nat->St->Hp->Prop)(l:Pv 0 b H)(n:∀i b H,i<=xs.length->Pv i b H->SqL K H a xs)(hs:∀i x b H,xs[i]?=Φ x->Pv i b H->g x b H λc h=>j {D with nx:=Pv (i+1),ct:=Pv (i+1),bk:=D.nx} c h)(hd:∀b H,Pv xs.length b H->D.nx b H):
  ∃W:Nat->Nat->St->Hp->Prop,(∃m,W 0 m b H)/\∀i m b H,W i m b H->
   ((Itl K a).stop i H/\D.nx b H)\/((Itl K a).go i H/\∃N:St->Hp->Prop,(∀d H',N d H'->∃k,k<m/\W (i+1) k d H')/\∀x H',(Itl K a).yld i H x H'->g x b H' λc h=>j {D with nx:=N,ct:=N,bk:=D.nx} c h):=by
 refine⟨λi m b H=>m=xs.length-i/\i<=xs.length/\Pv i b H,⟨xs.length,by simp,zero_le _,l⟩,?_⟩;rintro i m b H ⟨rfl,o,p⟩;have q:=n i b H o p;by_cases f:i<xs.length;refine .inr ⟨⟨xs,xs[i],q,by simp[f]⟩,Pv (i+1),λd H' r=>⟨xs.length-(i+1),by lia,rfl,f,r⟩,λx H' y=>?_⟩;let⟨e,y⟩:=y;subst e;exact hs i x b _ (y xs q) p;have e:i=xs.length:=by lia
 subst e;exact .inl ⟨⟨xs,q,le_refl _⟩,hd b H p⟩
@[reducible]def R2:=V->V->Hp->VK->Prop
abbrev OpR(X:Cx)(f:Ξ->Ξ->Sem Ξ)(r:R2):Prop:=
 ∀(a:List (Addr×Obj))(s:Β)(b:St)(H:Hp)(x y:V)(v u:Ξ)(Q:VK),Inv X a b H s->RelV x v->RelV y u->r x y H Q->
  wpAny (model X.prog X.w) X.A (f v u) (EP X a b Q) X.xe s
abbrev UnR(X:Cx)(f:Ξ->Sem Ξ)(r:V->Hp->VK->Prop):Prop:=
 ∀(a:List (Addr×Obj))(s:Β)(b:St)(H:Hp)(x:V)(v:Ξ)(Q:VK),Inv X a b H s->RelV x v->r x H Q->
  wpAny (model X.prog X.w) X.A (f v) (EP X a b Q) X.xe s
abbrev zbn(X:Cx)(f:Ξ)(r:List V->Hp->VK->Prop):Prop:=
 ∀(a:List (Addr×Obj))(s:Β)(b:St)(H:Hp)(c:List V)(d:List Ξ)(Q:VK),Inv X a b H s->Vals c d->r c H Q->
  wpAny (model X.prog X.w) X.A (call f d) (EP X a b Q) X.xe s
abbrev TruR(X:Cx)(r:V->Hp->(Bool->Hp->Prop)->Prop):Prop:=
 ∀(a:List (Addr×Obj))(s:Β)(b:St)(H:Hp)(x:V)(v:Ξ)(Q:Bool->Hp->Prop),Inv X a b H s->RelV x v->r x H Q->
  wpAny (model X.prog X.w) X.A (truthy v) (TP X a b Q) X.xe s
abbrev tOp(r:R2)(b c:TE):TE:=λa H Q=>b a H λx d=>c a d λy e=>r x y e Q
abbrev tUn(r:V->Hp->VK->Prop)(a:TE):TE:=λb H Q=>a b H λx c=>r x c Q
abbrev rI(C:Int->Int->Prop)(g:Int->Int->V):R2:=λx y H Q=>∃i j,x=.int i/\y=.int j/\C i j/\Q (g i j) H
abbrev rI0(g:Int->Int->V):R2:=λx y H Q=>∃i j,x=.int i/\y=.int j/\Q (g i j) H
abbrev rU(g:Int->V):V->Hp->VK->Prop:=λx H Q=>∃i,x=.int i/\Q (g i) H
section
variable{X:Cx}{a b c:Expr}{ta tb tc:TE}{pos:Pos}
def binT(m:PE X a ta)(n:PE X b tb){R:V->V->Hp->Prop}(I:Inv X d g H s)(h:ta g H λx l=>tb g l λy e=>R x y e){f:Ξ->Ξ->Sem Ξ}(o:∀v u k x y e,Inv X d g e k->RelV x v->RelV y u->R x y e->wpAny (model X.prog X.w) X.A (f v u) Q X.xe k):
  wpAny (model X.prog X.w) X.A (eval a X.env) (λv i=>wpAny (model X.prog X.w) X.A (eval b X.env) (λu j=>wpAny (model X.prog X.w) X.A (f v u) Q X.xe j) X.xe i) X.xe s:=by
 refine thn (m d s g H _ I h) λv p z=>?_;let⟨x,l,q,r,t⟩:=z;refine thn (n d p g l _ q t) λu k z=>?_;let⟨y,e,w,A,B⟩:=z;exact o v u k x y e w r A B
def zsX(e:OpR X (binaryOp op) r)(f:PE X a ta)(g:PE X b tb):PE X (.BinOp a op b pos) (tOp r ta tb):=by intro d s i H Q I h;exact wpAny_BinOp (binT f g I h λv u j x y k l m n q=>e d j i k x y v u Q l m n q)
def zuA(f:UnR X (unaryOp op) r)(g:PE X a ta):PE X (.UnaryOp op a pos) (tUn r ta):=by intro d s e H Q I h;exact UnaryOp_ (thn (g d s e H _ I h) λv i z=>(by let⟨x,j,k,l,m⟩:=z;exact f d i e j x v Q k l m))
def opI{g:Int->Int->Int}(rule:∀(i j:Int)(t u:Tok)(s:Β)(Q:Ξ->Β->Prop)(E:Ξ->Β->Prop),C i j->Q (.int (g i j) s.toks) {s with toks:=s.toks+1}->wpAny (model X.prog X.w) X.A (f (.int i t) (.int j u)) Q E s):
  OpR X f (rI C λi j=>.int (g i j)):=by
 intro d s n H x y v u Q I e k h;let⟨i,j,rfl,rfl,l,q⟩:=h;let⟨t,rfl⟩:=e;let⟨m,rfl⟩:=k;exact rule i j t m s _ _ l ⟨.int (g i j),H,I.tok _,⟨_,rfl⟩,q⟩
def opI0{g:Int->Int->Int}(rule:∀(i j:Int)(t u:Tok)(s:Β)(Q:Ξ->Β->Prop)(E:Ξ->Β->Prop),Q (.int (g i j) s.toks) {s with toks:=s.toks+1}->wpAny (model X.prog X.w) X.A (f (.int i t) (.int j u)) Q E s):
  OpR X f (rI0 λi j=>.int (g i j)):=by
 intro d s m H x y v u Q I e k h;let⟨i,j,rfl,rfl,q⟩:=h;let⟨t,rfl⟩:=e;let⟨l,rfl⟩:=k;exact rule i j t l s _ _ ⟨.int (g i j),H,I.tok _,⟨_,rfl⟩,q⟩
def opB0{g:Int->Int->Bool}(rule:∀(i j:Int)(t u:Tok)(s:Β)(Q:Ξ->Β->Prop)(E:Ξ->Β->Prop),Q (.bool (g i j)) s->wpAny (model X.prog X.w) X.A (f (.int i t) (.int j u)) Q E s):
  OpR X f (rI0 λi j=>.bl (g i j)):=by
 intro d s m H x y v u Q I e k h;let⟨i,j,rfl,rfl,q⟩:=h;let⟨t,rfl⟩:=e;let⟨l,rfl⟩:=k;exact rule i j t l s _ _ ⟨.bl (g i j),H,I,rfl,q⟩
abbrev CDiv(i j:Int):Prop:=0<j/\j<1073741824
abbrev CPow(i j:Int):Prop:=0<=j/\j<=1000000/\i.natAbs<2^64
abbrev CMul(i j:Int):Prop:=(-(2^64)<i/\i<2^64)\/(-(2^64)<j/\j<2^64)
def CMul.ok(h:CMul i j):IntMulOk i j:=by rcases h with⟨d,e⟩|⟨d,e⟩;exact .of_left (intBits_le_64 d e);exact .of_right (intBits_le_64 d e)
def zoN:OpR X (binaryOp .Add) (rI0 λi j=>.int (i+j)):=opI0 λ_ _ _ _ _ _ _ q=>add_int q
def zs7:OpR X (binaryOp .Sub) (rI0 λi j=>.int (i-j)):=opI0 λ_ _ _ _ _ _ _ q=>sub_int q
def zta:OpR X (binaryOp .Mult) (rI CMul λi j=>.int (i*j)):=opI λ_ _ _ _ _ _ _ d q=>mul_int q d.ok
def zqD:OpR X (binaryOp .FloorDiv) (rI CDiv λi j=>.int (i/j)):=opI λi j _ _ _ _ _ d q=>by have e:(0:Int)<j:=d.1;have f:j<1073741824:=d.2;exact floordiv_int (by lia) (by rw[Int.fdiv_eq_ediv_of_nonneg i (by lia)];exact q) (.inl (PyProof.noPylong_small (by lia)))
def ztb:OpR X (binaryOp .Mod) (rI (λ_ j=>0<j) λi j=>.int (i%j)):=opI λi j _ _ _ _ _ d q=>by have e:(0:Int)<j:=d;exact mod_int' (by lia) (by rw[Int.fmod_eq_emod_of_nonneg i (by lia)];exact q)
def zs8:OpR X (binaryOp .Pow) (rI CPow λi j=>.int (i^j.toNat)):=opI λ_ _ _ _ _ _ _ d q=>pow_int_small d.1 d.2.1 d.2.2 q
def unI{g:Int->Int}(rule:∀(i:Int)(t:Tok)(s:Β)(Q:Ξ->Β->Prop)(E:Ξ->Β->Prop),Q (.int (g i) s.toks) {s with toks:=s.toks+1}->wpAny (model X.prog X.w) X.A (f (.int i t)) Q E s):
  UnR X f (rU λi=>.int (g i)):=by
 intro d s j H x v Q I e h;let⟨i,rfl,q⟩:=h;let⟨t,rfl⟩:=e;exact rule i t s _ _ ⟨.int (g i),H,I.tok _,⟨_,rfl⟩,q⟩
def zrQ:UnR X (unaryOp .USub) (rU λi=>.int (-i)):=unI λ_ _ _ _ _ q=>neg_int q
end
abbrev scal:V->V->Bool
 |.non,.non=>Γ|.non,.int _=>Γ|.int _,.non=>Γ|.non,.bl _=>Γ|.bl _,.non=>Γ|.non,.str _=>Γ|.str _,.non=>Γ
 |.int _,.int _=>Γ|.bl _,.bl _=>Γ|.str _,.str _=>Γ|.byt _,.byt _=>Γ
 |.int _,.str _=>Γ|.str _,.int _=>Γ|.bl _,.str _=>Γ|.str _,.bl _=>Γ
 |_,_=>Δ
abbrev rEq:R2:=λx y H Q=>scal x y=Γ/\Q (.bl (decide (x=y))) H
abbrev rNe:R2:=λx y H Q=>scal x y=Γ/\Q (.bl (!decide (x=y))) H
def zl9:decide (V.int i=V.int j)=(i==j):=by rw[Bool.eq_iff_iff];simp
def zo3:decide (V.bl i=V.bl j)=(i==j):=by rw[Bool.eq_iff_iff];simp
def zl8:decide (V.str i=V.str j)=(i==j):=by rw[Bool.eq_iff_iff];simp
def zma:decide (V.byt i=V.byt j)=(i.toList==j.toList):=by rw[Bool.eq_iff_iff];cases i;cases j;simp
section
variable{X:Cx}{a b c:Expr}{ta tb tc:TE}{pos:Pos}
def zav(I:Inv X d f H s)(q:Q (.bl k) H)(e:k=k'):EP X d f Q (.bool k') s:=by subst e;exact⟨.bl k,H,I,rfl,q⟩
def zuJ:OpR X (compareOp .Eq) rEq:=by
 intro k s l H x y v u Q I g d h;let⟨f,q⟩:=h;cases x with
 |non=>cases g;cases y with|non=>cases d;exact PySem.EqNone.eq_none_none (zav I q (by simp))|bl j=>cases d;exact PySem.EqNone.eq_none_bool (zav I q (by simp))|int j=>let⟨e,rfl⟩:=d;exact PySem.EqNone.eq_none_int (zav I q (by simp))|str j=>let⟨e,rfl⟩:=d;exact PySem.EqNone.eq_none_str (zav I q (by simp))|_=>exact absurd (show Δ=Γ from f) Ο
 |bl i=>cases g;cases y with|non=>cases d;exact PySem.EqNone.eq_bool_none (zav I q (by simp))|bl j=>cases d;exact eq_bool (zav I q zo3)|str j=>let⟨e,rfl⟩:=d;exact PySem.EqMixed.eq_bool_str (zav I q (by simp))|_=>exact absurd (show Δ=Γ from f) Ο
 |int i=>let⟨t,rfl⟩:=g;cases y with|non=>cases d;exact PySem.EqNone.eq_int_none (zav I q (by simp))|int j=>let⟨e,rfl⟩:=d;exact eq_int (zav I q zl9)|str j=>let⟨e,rfl⟩:=d;exact PySem.EqMixed.eq_int_str (zav I q (by simp))|_=>exact absurd (show Δ=Γ from f) Ο
 |str i=>let⟨t,rfl⟩:=g;cases y with|non=>cases d;exact PySem.EqNone.eq_str_none (zav I q (by simp))|bl j=>cases d;exact PySem.EqMixed.eq_str_bool (zav I q (by simp))|int j=>let⟨e,rfl⟩:=d;exact PySem.EqMixed.eq_str_int (zav I q (by simp))|str j=>let⟨e,rfl⟩:=d;exact eq_str (zav I q zl8)|_=>exact absurd (show Δ=Γ from f) Ο
 |byt i=>let⟨t,rfl⟩:=g;cases y with|byt j=>let⟨e,rfl⟩:=d;exact PySem.W.eq_bytes (zav I q zma)|_=>exact absurd (show Δ=Γ from f) Ο
 |_=>cases y<;>exact absurd (show Δ=Γ from f) Ο
def zuE:OpR X (compareOp .NotEq) rNe:=by
 intro k s l H x y v u Q I g d h;let⟨f,q⟩:=h;cases x with
 |non=>cases g;cases y with|non=>cases d;exact PySem.EqNone.ne_none_none (zav I q (by simp))|bl j=>cases d;exact PySem.EqNone.ne_none_bool (zav I q (by simp))|int j=>let⟨e,rfl⟩:=d;exact PySem.EqNone.ne_none_int (zav I q (by simp))|str j=>let⟨e,rfl⟩:=d;exact PySem.EqNone.ne_none_str (zav I q (by simp))|_=>exact absurd (show Δ=Γ from f) Ο
 |bl i=>cases g;cases y with|non=>cases d;exact PySem.EqNone.ne_bool_none (zav I q (by simp))|bl j=>cases d;exact ne_bool (zav I q (congrArg not zo3))|str j=>let⟨e,rfl⟩:=d;exact PySem.EqMixed.ne_bool_str (zav I q (by simp))|_=>exact absurd (show Δ=Γ from f) Ο
 |int i=>let⟨t,rfl⟩:=g;cases y with|non=>cases d;exact PySem.EqNone.ne_int_none (zav I q (by simp))|int j=>let⟨e,rfl⟩:=d;exact ne_int (zav I q (congrArg not zl9))|str j=>let⟨e,rfl⟩:=d;exact PySem.EqMixed.ne_int_str (zav I q (by simp))|_=>exact absurd (show Δ=Γ from f) Ο
 |str i=>let⟨t,rfl⟩:=g;cases y with|non=>cases d;exact PySem.EqNone.ne_str_none (zav I q (by simp))|bl j=>cases d;exact PySem.EqMixed.ne_str_bool (zav I q (by simp))|int j=>let⟨e,rfl⟩:=d;exact PySem.EqMixed.ne_str_int (zav I q (by simp))|str j=>let⟨e,rfl⟩:=d;exact ne_str (zav I q (congrArg not zl8))|_=>exact absurd (show Δ=Γ from f) Ο
 |byt i=>let⟨t,rfl⟩:=g;cases y with|byt j=>let⟨e,rfl⟩:=d;exact PySem.W.ne_bytes (zav I q (congrArg not zma))|_=>exact absurd (show Δ=Γ from f) Ο
 |_=>cases y<;>exact absurd (show Δ=Γ from f) Ο
def zuF:OpR X (compareOp .Lt) (rI0 λi j=>.bl (decide (i<j))):=opB0 λ_ _ _ _ _ _ _ q=>lt_int q
def zuG:OpR X (compareOp .LtE) (rI0 λi j=>.bl (decide (i<=j))):=opB0 λ_ _ _ _ _ _ _ q=>le_int q
def zuH:OpR X (compareOp .Gt) (rI0 λi j=>.bl (decide (j<i))):=opB0 λ_ _ _ _ _ _ _ q=>gt_int q
def zuI:OpR X (compareOp .GtE) (rI0 λi j=>.bl (decide (j<=i))):=opB0 λ_ _ _ _ _ _ _ q=>ge_int q
def zqC:OpR X (compareOp .IsNot) (λx y H Q=>y=.non/\Q (.bl (!decide (x=.non))) H):=by
 intro d s g H x y v u Q I e f h;let⟨rfl,q⟩:=h;cases f;refine isnot_none_gen (zav I q ?_);cases x<;>first
  |(cases e;rfl)
  |(let⟨t,rfl⟩:=e;rfl)
def zoO(b)(h:op≠.In:=by decide)(d:op≠.NotIn:=by decide):behindInMarks op b=Δ:=by
 have e:(op==CmpOp.In)=Δ:=by cases op<;>first|rfl|exact absurd rfl h
 have f:(op==CmpOp.NotIn)=Δ:=by cases op<;>first|rfl|exact absurd rfl d
 cases b<;>simp[behindInMarks,e,f]
def zqx(e:OpR X (compareOp op) r)(f:PE X a ta)(g:PE X b tb)(i:behindInMarks op b=Δ):PE X (.Compare a [op] [b] pos) (tOp r ta tb):=by intro d s j H Q I h;exact wpAny_Compare1 (binT f g I h λv u k x y l m n o q=>e d k j l x y v u Q m n o q) i
abbrev zpo(t:TE):TT:=λd H Q=>t d H λx e=>∃k,x=.bl k/\Q k e
def zkQ(g:OpR X (compareOp op) r)(i:PE X a ta)(l:PE X b tb)(m:behindInMarks op b=Δ):PT X (.Compare a [op] [b] pos) (zpo (tOp r ta tb)):=by intro d s f H Q I h;refine wpAny_isTrue_Compare1 (thn (i d s f H _ I h) λv n z=>eY z λx o p q t=>thn (l d n f o _ p t) λu w z=>eY z λy A B C E=>thn (g d w f A x y v u _ B q C E) λc N j=>?_) m;let⟨z,G,J,L,k,e,M⟩:=j;subst e;cases L;exact ϕ ⟨G,J,M⟩
abbrev zon(r f:R2)(ta tb tc:TE):TE:=λd H Q=>ta d H λx g=>tb d g λy h=>r x y h λz e=>∃k,z=.bl k/\
 (if k=Γ then tc d e λi j=>f y i j Q else Q (.bl Δ) e)
def znu(t:OpR X (compareOp op) r)(l:OpR X (compareOp g) w)(A:PE X a ta)(B:PE X b tb)(C:PE X c tc)(E:lastMarks [op,g] [b,c]=Δ:=by with_unfolding_all rfl):PE X (.Compare a [op,g] [b,c] pos) (zon r w ta tb tc):=by
 intro f s i H Q I h;refine Compare_chain (thn (A f s i H _ I h) λv G z=>eY z λx J L M N=>chain_link (thn (B f G i J _ L N) λu O z=>eY z λy T U m Y=>thn (t f O i T x y v u _ U M m Y) λd s3 j=>?_)) E;let⟨z,n,o,r3,k,e,q⟩:=j;subst e;cases r3;refine ϕ ?_;cases k with|false=>exact ite_ff ⟨.bl Δ,n,o,rfl,q⟩|true=>exact ite_tt (chain_last (thn (C f s3 i n _ o q) λw' s4 p=>(by let⟨z',H4,I4,r4,q4⟩:=p;exact l f s4 i H4 y z' u w' Q I4 m r4 q4)))
def znc(q:OpR X (compareOp op) r)(l:OpR X (compareOp g) t)(w:PE X a ta)(A:PE X b tb)(B:PE X c tc)(C:lastMarks [op,g] [b,c]=Δ:=by with_unfolding_all rfl):PT X (.Compare a [op,g] [b,c] pos) (zpo (zon r t ta tb tc)):=by
 intro f s i H Q I h;refine isTrue_chain (thn (w f s i H _ I h) λv E z=>eY z λx G J L M=>test_link (thn (A f E i G _ J M) λu N z=>eY z λy O T m U=>thn (q f N i O x y v u _ T L m U) λd Y j=>?_)) C;let⟨z,n,o,r3,k,e,p⟩:=j;subst e;cases r3;refine ϕ ?_;cases k with| false=>let⟨k',e',q'⟩:=p;cases e';exact ite_ff ⟨n,o,q'⟩| true=>refine ite_tt (test_last (thn (B f Y i n _ o p) λw' s4 z=>eY z λz' H4 I4 r4 q4=>thn (l f s4 i H4 y z' u w' _ I4 m r4 q4) λd' s5 j=>?_));let⟨z2,H5,I5,r5,k2,e2,q5⟩:=j;subst e2;cases r5;exact ϕ ⟨H5,I5,q5⟩
abbrev TruV(K:Frag)(x:V)(H:Hp)(k:Bool):Prop:=match x with|.non=>k=Δ|.bl b=>k=b|.int i=>k=(i != 0)|.str y=>y.length<=sizeLine/\k=((y.length:Int) != 0)|.byt y=>y.size<=sizeLine/\k=((y.size:Int) != 0)|.ref p=>(∃d,SqL K H p d/\k = !d.isEmpty)\/(∃d,SqT K H p d/\k = !d.isEmpty)\/∃e,H p=Φ (.dK e)/\k = !e.isEmpty|_=>False
def zjE(r:KV kvs vs):(!vs.isEmpty) = !kvs.isEmpty:=by cases r<;>rfl
def zeS(r:Vals xs its):(!its.toArray.isEmpty) = !xs.isEmpty:=by cases r<;>simp
def zgE:(sizeLine:Nat)<2^63:=by rw[Υ];decide
def zrT:TruR X (λx H Q=>∃k,TruV X.K x H k/\Q k H):=by
 intro z s E H x v Q I l h;let⟨k,e,q⟩:=h;have G:=zgE;have J:sizeLine=16777216:=Υ;cases x with
 |non=>cases l;have d:k=Δ:=e;subst d;exact truthy_none ⟨H,I,q⟩| bl b=>cases l;have d:k=b:=e;subst d;exact ϕ ⟨H,I,q⟩| int i=>let⟨t,rfl⟩:=l;have d:k=(i != 0):=e;subst d;exact PySem.P.truthy_int ⟨H,I,q⟩| str y=>let⟨t,rfl⟩:=l;obtain⟨B,d⟩:y.length<=sizeLine/\k=((y.length:Int) != 0):=e;subst d;exact PySem.P.truthy_str (by lia) ⟨H,I.tok _,q⟩| byt y=>let⟨t,rfl⟩:=l;obtain⟨B,d⟩:y.size<=sizeLine/\k=((y.size:Int) != 0):=e;subst d;exact PySem.W.truthy_bytes (by lia) ⟨H,I.tok _,q⟩| ref p=>cases l;have d:(∃j,SqL X.K H p j/\k = !j.isEmpty)\/(∃j,SqT X.K H p j/\k = !j.isEmpty)\/∃f,H p=Φ (.dK f)/\k = !f.isEmpty:=e;rcases d with⟨j,n,d⟩|⟨j,n,d⟩|⟨f,n,d⟩;subst d;let⟨u,r,w,A⟩:=I.list n;have g:=r.length;exact wpAny_truthy_list w.isList (by simp![size_toArray];lia) ⟨H,I.tok _,by rw[zeS r];exact q⟩;subst d;let⟨u,r,w,A⟩:=I.tuple n;have g:=r.length;exact truthy_tuple w (by simp![size_toArray];lia) ⟨H,I.tok _,by rw[zeS r];exact q⟩;subst d;obtain⟨A,C,o,r,m⟩:f.length<=sizeLine/\(p==sysModules)=Δ/\∃o,KV f o/\s.heap.DictOf (zar X.prog X.w) p o:=I.hok p _ n;have g:f.length=o.length:=Paired.length r;exact wpAny_truthy_dict C m (by lia) ⟨H,I.tok _,by rw[zjE r];exact q⟩
 |_=>exact(show False from e).elim
def znb(g:PE X a ta)(i:∀d,isTrue a X.env d=(do let v <-d;standAt a.pos;holding [v] (truthy v))) :
  PT X a (λf H Q=>ta f H λx H'=>∃k,TruV X.K x H' k/\Q k H'):=by
 intro e s f H Q I h;exact isTrue_plain (thn (g e s f H _ I h) λv j z=>(by let⟨x,l,m,n,o⟩:=z;exact zrT e j f l x v Q m n o)) (i _)
def zmz(r:Vals [x] us):∃u,us=[u]/\RelV x u:=by cases r with|cons d e=>cases e;exact⟨_,rfl,d⟩
def zpk(r:Vals [x,y] us):∃u d,us=[u,d]/\RelV x u/\RelV y d:=by cases r with| cons e f=>cases f with|cons g h=>cases h;exact⟨_,_,rfl,e,g⟩
def zn9:zbn X (.builtin "abs") (λxs H Q=>∃i,xs=[.int i]/\Q (.int (if i<0 then -i else i)) H):=by intro d s e H xs f Q I r h;let⟨i,rfl,q⟩:=h;let⟨u,rfl,t,rfl⟩:=zmz r;exact call_abs_int λu g=>⟨.int (if i<0 then -i else i),H,I.tok _,⟨_,rfl⟩,q⟩
def zmh(f:X.calm=Γ):zbn X (.builtin "max") (λxs H Q=>∃i j,xs=[.int i,.int j]/\Q (.int (if j>i then j else i)) H):=by intro e s g H xs l Q I r h;let⟨i,j,rfl,q⟩:=h;let⟨u,m,rfl,⟨t,rfl⟩,⟨n,rfl⟩⟩:=zpk r;refine max_two_ints (I.ok.hd f) λo p k=>⟨_,H,I.kept k,?_,q⟩;by_cases d:j>i;rw[if_pos d,if_pos d];exact⟨_,rfl⟩;rw[if_neg d,if_neg d];exact⟨_,rfl⟩
def zmg(f:X.calm=Γ):zbn X (.builtin "min") (λxs H Q=>∃i j,xs=[.int i,.int j]/\Q (.int (if j<i then j else i)) H):=by intro e s g H xs l Q I r h;let⟨i,j,rfl,q⟩:=h;let⟨u,m,rfl,⟨t,rfl⟩,⟨n,rfl⟩⟩:=zpk r;refine min_two_ints (I.ok.hd f) λo p k=>⟨_,H,I.kept k,?_,q⟩;by_cases d:j<i;rw[if_pos d,if_pos d];exact⟨_,rfl⟩;rw[if_neg d,if_neg d];exact⟨_,rfl⟩
end
structure ObjM(h:Heap)(x dx C:Addr)(mA:Str->Option Ξ):Prop where
 obj:h.get? x=Φ (instObj C dx)
 ns:h.Ns1 dx mA
 ne:dx≠x
def zlg{h:Heap}(n:h.Ns1 f g):∃c,h.get? f=Φ c/\∀name,lookIn name c=Φ (g name):=by
 let⟨o,d,r,i,j,k,_,l⟩:=n;refine⟨o,i,λname=>?_⟩;have e:=l name;unfold nsFind findBy at e;rw[<-Array.find?_toList]at e;unfold lookIn;rw[j];dsimp only;split;rename_i y q;rw[q]at e;exact congrArg Φ e;rename_i q;rw[q]at e;have a:d.toList.any (·.refKey)=Δ:=by rw[List.any_eq_false];intro y m;let⟨z,t,b⟩:=k y (Array.mem_toList_iff.mp m);simp[DictEntry.refKey,b]
 have p:¬d.toList.any (·.refKey)=Γ:=by rw[a];exact Ο
 rw[if_neg p];exact congrArg Φ e
def ObjM.look(I:ObjM h x b C c):∃a,PySem.W.InstAt h x (instObj C b) C (Φ a)/\∀name,lookIn name a=Φ (c name):=
 let ⟨a,d,e⟩:=zlg I.ns
 ⟨a,⟨I.obj,rfl,rfl,d⟩,e⟩
section
variable{prog:ϊ}{w:ό}{A:ϐ}{E:Ξ->Β->Prop}{s:Β}{K:Frag}{x dx C f:Addr}{mA:Str->Option Ξ}{name:Str}{v:Ξ}
def zq7(X:K.In s.heap)(I:ObjM s.heap x dx C mA)(c:plainGet K C name=Γ)(d:hasDictIn K C=Γ)(e:findIn K (.ref C) name=Φ Ψ)(g:mA name=Φ v)(a:handedIn v=Γ)(h:Q v {s with toks:=s.toks+1}):
  wpAny (model prog w) A (getAttr (.ref x) name b) Q E s:=by
 let⟨j,J,i⟩:=I.look;exact PySem.W.get_value X J (plainGet_of c).1 (PySem.W.findObj_own d e rfl (by rw[i,g])) a h
def znV(X:K.In s.heap)(I:ObjM s.heap x dx C mA)(a:plainGet K C name=Γ)(b:findIn K (.ref C) name=Φ (Φ (.ref f)))(c:isFn K (.ref f)=Γ)(d:mA name=Ψ)(h:Q (.ref f,[.ref x]) s):
  wpAny (model prog w) A (getMethod (.ref x) name i) Q E s:=by
 let⟨e,J,g⟩:=I.look;exact PySem.W.method_fn X J (plainGet_of a).1 (plainGet_of a).2 b (beq_iff_eq.mp c) (by show(lookIn name e).map (·.isSome)=Φ Δ;rw[g,d];rfl) h
def zpG(X:K.In s.heap)(I:ObjM s.heap x dx C mA)(hs:findIn K (.ref C) "__setattr__"=Φ (Φ (.builtin "object.__setattr__")))(k:plainOver K C=Γ)(l:takerIn K C name=Φ Ψ)(m:hasDictIn K C=Γ)(n:PySem.Within mA ns)(hsz:ns.length<=sizeLine)(h:∀h',ObjM h' x dx C (λy=>if y=name then Φ v else mA y)->Heap.SameBut dx s.heap h'->Q () {s with heap:=h',toks:=s.toks+2}):
  wpAny (model prog w) A (setAttr (.ref x) name v) Q E s:=by
 let⟨u,J,z⟩:=I.look;refine PySem.W.set_plain X J hs (PySem.W.osa_open (s:={s with toks:=s.toks+1}) (r:=Ψ) X J k l λb=>?_);let⟨B,o,e⟩:=PySem.W.any_some m;have p:s.heap.get? x=Φ ⟨.ref C,Φ dx,.plain,#[]⟩:=I.obj;refine Θ (Ω (Θ (Θ (wpAny_loadPart p (Θ (Looks.here (s:={s with toks:=s.toks+1}) (PySem.W.looks_clsIn X o) ?_))))));rw[e];refine Ω (a:=Φ dx) (Θ (Ω (Θ ?_)));refine wpAny_nsSet1 (s:={s with toks:=s.toks+1}) I.ns λh' c d=>?_;let⟨oD,q,t,g,i,j⟩:=c.count (PySem.Within.cons name v n);refine Θ (wpAny_lookBehind g (by rw[i];exact pastItsLine_dict (le_trans j (by rw[Χ];lia))) ?_);exact Ω (h _ ⟨(d.2 _ (Ne.symm I.ne)).trans I.obj,c,I.ne⟩ d)
def znA(X:K.In s.heap)(b:makesIn K C=Γ)(c:findIn K (.ref C) "__init__"=Φ (Φ (.ref f)))(e:PySem.W.typeIn K (.ref f)=Φ (.type "function"))(h:codeAny (model prog w) (A.under (.builtin "type.__call__" ⟨.ref C::vs,a⟩)) (.call (.ref f) ⟨.ref (s.heap.objs.size+1)::vs,a⟩) (PySem.W.InitBack (s.heap.objs.size+1) R)
   {s with heap:=(s.heap.push emptyDict).push (instObj C s.heap.objs.size)}):
  codeAny (model prog w) A (.call (.ref C) ⟨vs,a⟩) R s:=by
 let⟨i,g,d,t,os⟩:=s;exact PySem.W.make_core (PySem.W.makes_of X b) (PySem.W.looks_findIn X c) (λself=>PySem.W.bind_fn X self e) (.inl rfl) h
end
abbrev putF(f:Str)(v:V):List (Str×V)->List (Str×V)
 | []=>[(f,v)]|(g,x)::r=>if g=f then(g,v)::r else(g,x)::putF f v r
def zd5(f g)(v):∀c:List (Str×V),(putF f v c).lookup g=if g=f then Φ v else c.lookup g
 | []=>by show List.lookup g [(f,v)]=_;by_cases h:g=f;have a:(g==f)=Γ:=beq_iff_eq.mpr h;simp![List.lookup,a,if_pos h];have a:(g==f)=Δ:=beq_eq_false_iff_ne.mpr h;simp![List.lookup,a,if_neg h]| (k,x)::r=>by have d:=zd5 f g v r;rw[show putF f v ((k,x)::r)=(if k=f then(k,v)::r else(k,x)::putF f v r) from rfl];by_cases b:k=f;rw[if_pos b];by_cases h:g=k;have a:(g==k)=Γ:=beq_iff_eq.mpr h;simp![List.lookup,a,if_pos (h.trans b)];have a:(g==k)=Δ:=beq_eq_false_iff_ne.mpr h;simp![List.lookup,a,if_neg (λe:g=f=>h (e.trans b.symm))];rw[if_neg b];by_cases h:g=k;have a:(g==k)=Γ:=beq_iff_eq.mpr h;simp![List.lookup,a,if_neg (λe:g=f=>b (h.symm.trans e))];have a:(g==k)=Δ:=beq_eq_false_iff_ne.mpr h;simp![List.lookup,a];exact d
def zea(f)(v):∀a:List (Str×V),f∈(putF f v a).map (·.1)/\∀g,g∈a.map (·.1)->g∈(putF f v a).map (·.1)
 | []=>⟨by simp[putF],λg h=>by simp at h⟩| (k,x)::r=>by let⟨c,d⟩:=zea f v r;rw[show putF f v ((k,x)::r)=(if k=f then(k,v)::r else(k,x)::putF f v r) from rfl];by_cases b:k=f;rw[if_pos b];subst b;exact⟨by simp,λg h=>by simpa using h⟩;rw[if_neg b];refine⟨?_,λg h=>?_⟩;rw[Ν];exact Κ _ c;rw[Ν]at h⊢;rcases mem_cons.mp h with e|e;exact mem_cons.mpr (.inl e);exact Κ _ (d g e)
def zd6(f)(v):∀a:List (Str×V),(putF f v a).length<=a.length+1
 | []=>by simp[putF]| (k,x)::r=>by have c:=zd6 f v r;rw[show putF f v ((k,x)::r)=(if k=f then(k,v)::r else(k,x)::putF f v r) from rfl];by_cases b:k=f;rw[if_pos b,Χ,Χ];lia;rw[if_neg b,Χ,Χ];lia
def RelO.some_of(r:RelO (Φ v) o):∃u,o=Φ u/\RelV v u:=by cases o with|none=>exact(show False from r).elim|some u=>exact⟨u,rfl,r⟩
def RelO.none_of(r:RelO Ψ o):o=Ψ:=by cases o with|none=>rfl|some u=>exact(show False from r).elim
def zlU(r:RelV v u):handedIn u=Γ:=by cases v with|non=>cases(show u=Ξ.none from r);rfl|bl b=>cases(show u=Ξ.bool b from r);rfl|int i=>let⟨t,e⟩:=(show ∃t,u=Ξ.int i t from r);cases e;rfl|str x=>let⟨t,e⟩:=(show ∃t,u=Ξ.str x t from r);cases e;rfl|byt b=>let⟨t,e⟩:=(show ∃t,u=Ξ.bytes b t from r);cases e;rfl|flt b=>let⟨t,e⟩:=(show ∃t,u=Ξ.float b t from r);cases e;rfl|ref a=>cases(show u=Ξ.ref a from r);rfl|ty n=>cases(show u=Ξ.type n from r);rfl
section
variable{P:ϊ}{w:ό}{H H':Hp}{h h':Heap}{a C dx:Addr}{fs fs':List (Str×V)}
def zfR(hok:HOk P w H h)(e:H a=Φ (.ins C dx fs)):∃b,ObjM h a dx C b/\(∀f,RelO (fs.lookup f) (b f))/\PySem.Within b (fs.map (·.1))/\fs.length<=1000/\H dx=Φ (.own a):=by let⟨d,z,c,g,b,n,r,q⟩:=(show ObjOk P w H h a (.ins C dx fs) from hok a _ e);exact⟨b,⟨g,n,c⟩,r,q,z,d⟩
end
structure Cls(K:Frag)(C:Addr):Prop where
 pg:plainGet K C Str.empty=Γ
 hd:hasDictIn K C=Γ
 po:plainOver K C=Γ
 sa:findIn K (.ref C) "__setattr__"=Φ (Φ (.builtin "object.__setattr__"))
def Cls.get{K}(c:Cls K C)(f):plainGet K C f=Γ:=c.pg
abbrev NoAttr(K:Frag)(C:Addr)(f:Str):Prop:=findIn K (.ref C) f=Φ Ψ
def NoAttr.taker{K}(n:NoAttr K C f):takerIn K C f=Φ Ψ:=by unfold takerIn;rw[show findIn K (.ref C) f=Φ Ψ from n];rfl
structure Con(K:Frag)(C:Addr)(f:Str)(v:V)(u:Ξ):Prop where
 at_:findIn K (.ref C) f=Φ (Φ u)
 rel:RelV v u
 get:specialIn K u "__get__"=Φ Ψ
 cp:PySem.W.copiedNames.contains f=Δ
structure Meth(K:Frag)(C:Addr)(m:Str)(f:Addr):Prop where
 at_:findIn K (.ref C) m=Φ (Φ (.ref f))
 fn:isFn K (.ref f)=Γ
 kp:keepIn K (.ref f)=Γ
section
variable{X:Cx}{pins:List (Addr×Obj)}{σ:St}{H:Hp}{s:Β}{a C dx:Addr}{fs:List (Str×V)}{f:Str}{v:V}{A:ϐ}{E:Ξ->Β->Prop}
def zjF(I:Inv X pins σ H s)(e:H a=Φ (.ins C dx fs))(c:Cls X.K C)(n:NoAttr X.K C f)(l:fs.lookup f=Φ v)(h:∀u s',Inv X pins σ H s'->RelV v u->Q u s'):wpAny (model X.prog X.w) A (getAttr (.ref a) f b) Q E s:=by
 let⟨g,O,r,_,_,_⟩:=zfR I.hok e;let⟨u,i,d⟩:=RelO.some_of (v:=v) (o:=g f) (by rw[<-l];exact r f);exact zq7 I.kIn O (c.get f) c.hd n i (zlU d) (h u _ (I.tok _) d)
def zeV(I:Inv X pins σ H s)(e:H a=Φ (.ins C dx fs))(c:Cls X.K C)(k:Meth X.K C m g)(l:fs.lookup m=Ψ)(h:Q (.ref g,[.ref a]) s):wpAny (model X.prog X.w) A (getMethod (.ref a) m i) Q E s:=by
 let⟨b,O,r,_,_,_⟩:=zfR I.hok e;have d:b m=Ψ:=RelO.none_of (by rw[<-l];exact r m);exact znV I.kIn O (c.get m) k.at_ k.fn d h
def zjg(I:Inv X pins σ H s)(e:H a=Φ (.ins C dx fs))(c:Cls X.K C)(n:NoAttr X.K C f)(L:fs.length<1000)(l:RelV y u)(h:∀s',Inv X pins σ (upd H a (.ins C dx (putF f y fs))) s'->Q () s'):wpAny (model X.prog X.w) A (setAttr (.ref a) f u) Q E s:=by
 let⟨i,O,r,j,_,k⟩:=zfR I.hok e;have m:(fs.map (·.1)).length<=sizeLine:=by rw[length_map,Υ];lia
 refine zpG I.kIn O c.sa c.po n.taker c.hd j m λp d t=>h _ ?_;have w:∃o,p.get? dx=Φ o:=let ⟨o,_,_,B,_⟩:=d.ns;⟨o,B⟩;refine I.write (x:=a) (e:=dx) (by rw[e];exact True.intro) (.inr k) (λb q G z=>(t.2 b G).trans z) w ?_;refine⟨by rw[zad O.ne];exact k,?_,O.ne,d.obj,_,d.ns,λg=>?_,λg J=>?_⟩
 have:=zd6 f y fs;lia;show RelO ((putF f y fs).lookup g) (if g=f then Φ u else i g);rw[zd5];by_cases q:g=f;rw[if_pos q,if_pos q];exact l;rw[if_neg q,if_neg q];exact r g;by_cases q:g=f;rw[q];exact(zea f y fs).1;refine(zea f y fs).2 g (j g λz=>J ?_);show(if g=f then Φ u else i g)=Ψ;rw[if_neg q];exact z
def Inv.made(I:Inv X pins σ H s):Inv X pins σ (upd (upd H s.heap.objs.size (.own (s.heap.objs.size+1))) (s.heap.objs.size+1) (.ins C s.heap.objs.size []))
  {s with heap:=(s.heap.push emptyDict).push (instObj C s.heap.objs.size)}:=by
 have c:(s.heap.push emptyDict).get? s.heap.objs.size=Φ emptyDict:=Ζ s.heap rfl;have g:((s.heap.push emptyDict).push (instObj C s.heap.objs.size)).get? (s.heap.objs.size+1)=Φ (instObj C s.heap.objs.size):=by
  have:=Ζ (s.heap.push emptyDict) (o:=instObj C s.heap.objs.size) rfl
  rwa [ώ]at this
 have e3:(s.heap.push emptyDict).Ns s.heap.objs.size (λ_=>Ψ):=⟨emptyDict,#[],_,c,rfl,(λe h=>absurd h (by simp)),λ_=>rfl⟩;have i:=I.laid (a:=s.heap.objs.size) (o:=.own (s.heap.objs.size+1)) (h':=s.heap.push emptyDict) (t':=s.toks) (λb u q=>Λ _ q) (le_refl _) ⟨_,c⟩;refine i.laid (a:=s.heap.objs.size+1) (o:=.ins C s.heap.objs.size []) (t':=s.toks) (λb u q=>Λ _ q) (le_of_eq (ώ _ _)) ?_;have d:s.heap.objs.size≠s.heap.objs.size+1:=ne_of_lt (ϗ _);refine⟨by rw[zad d,zaf],zero_le _,d,g,λ_=>Ψ,(Heap.Ns1.of_empty e3).at λo q=>Λ _ q,λ_=>True.intro,λy j=>absurd rfl j⟩
def zrw(c:attributeBase e f env (eval e env)=eval e env)(h:wpAny (model prog w) A (eval e env) (λo b=>wpAny (model prog w) A (getAttr o f Γ) Q E b) E s):wpAny (model prog w) A (eval (.Attribute e f pos) env) Q E s:=
 Attribute_any_ h (by rw[arm_eval_Attribute,c])
end
abbrev tFld(K:Frag)(d:TE)(f:Str):TE:=λe H Q=>d e H λx b=>∃a C g c v,x=.ref a/\b a=Φ (.ins C g c)/\Cls K C/\NoAttr K C f/\c.lookup f=Φ v/\Q v b
abbrev sFld(K:Frag)(g h:TE)(f:Str):TS:=λD b H=>h b H λy i=>g b i λx d=>∃a C e c,x=.ref a/\d a=Φ (.ins C e c)/\Cls K C/\NoAttr K C f/\c.length<1000/\
 D.nx b (upd d a (.ins C e (putF f y c)))
section
variable{X:Cx}{o e value:Expr}{f:Str}{pos pos' tpos:Pos}{ta tv:TE}
def zs2(d:PE X e ta)(g:attributeBase e f X.env (eval e X.env)=eval e X.env):PE X (.Attribute e f pos) (tFld X.K ta f):=by intro b s i H Q I h;refine zrw g (thn (d b s i H _ I h) λu y z=>?_);let⟨x,j,k,m,a,C,A,B,v,p,r,c,n,l,q⟩:=z;subst p;obtain rfl:u=Ξ.ref a:=m;exact zjF k r c n l λE G t w=>⟨v,j,t,w,q⟩
def zsS(g:PE X o ta)(i:PE X value tv)(hs:swapsWith value (Φ (.Attribute o f pos')) pos.line X.env=pure Δ):PS X (.Assign [.Attribute o f pos'] value pos) (sFld X.K ta tv f):=by intro b s d H D I h;refine plainObj_wpAny_Assign_Attribute (thn (i b s d H _ I h) λu j z=>eY z λy k m p q=>thn (g b j d k _ m q) λr G z=>?_) hs;let⟨x,J,t,v,a,C,L,M,w,A,c,n,l,B⟩:=z;subst w;obtain rfl:r=Ξ.ref a:=v;exact zjg t A c n l p λN E=>⟨d,_,E,B⟩
end
section
variable{X:Cx}{pins:List (Addr×Obj)}{σ:St}{H:Hp}{s:Β}{A:ϐ}{E:Ξ->Β->Prop}{Q:Ξ->Β->Prop}{c:Ξ}{b:Bool}
inductive TyOf(K:Frag)(H:Hp):V->Ξ->Prop where
 |non:TyOf K H .non (.type "NoneType")
 |bl (x:Bool):TyOf K H (.bl x) (.type "bool")
 |int (i:Int):TyOf K H (.int i) (.type "int")
 |str (x:Str):TyOf K H (.str x) (.type "str")
 |flt (x:UInt64):TyOf K H (.flt x) (.type "float")
 |lst {a:Addr} {xs:List V} (e:H a=Φ (.lst xs)):TyOf K H (.ref a) (.type "list")
 |frz {a:Addr} {o:Obj} {xs:List V} (e:H a=Φ (.frz o (.lst xs))):TyOf K H (.ref a) (.type "list")
 |tup {a:Addr} {xs:List V} (e:H a=Φ (.tup xs)):TyOf K H (.ref a) (.type "tuple")
 |dK {a:Addr} {kvs:List (Key×V)} (e:H a=Φ (.dK kvs)):TyOf K H (.ref a) (.type "dict")
 |dT {a:Addr} {kvs:List (List Key×V)} (e:H a=Φ (.dT kvs)):TyOf K H (.ref a) (.type "dict")
 |ins {a C dx:Addr} {fs:List (Str×V)} (e:H a=Φ (.ins C dx fs)) (cl:Cls K C) (ha:findIn K (.ref C) "__class__"=Φ (Φ (.builtin "object.__class__")))
  (hn:specialIn K (.builtin "object.__class__") "__get__"=Φ (Φ (.builtin "getset_descriptor.__get__"))) (htk:takesIn K (.builtin "object.__class__")=Φ Γ)
  (hm:mroIn K C (.type "object")=Φ Γ):TyOf K H (.ref a) (.ref C)
def zlB(I:Inv X pins σ H s)(rx:RelV x u)(ty:TyOf X.K H x t)(e:kitOne X.K t c=Φ b)(h:∀tk,Q (.bool b) {s with toks:=tk}):
  wpAny (model X.prog X.w) A (call (.builtin "isinstance") [u,c]) Q E s:=by
 cases ty with|non=>cases(show u=Ξ.none from rx);exact kia_one PySem.W.kitx_none I.kIn True.intro e (λz=>by cases z) h|bl y=>cases(show u=Ξ.bool y from rx);exact kia_one PySem.W.kitx_bool I.kIn True.intro e (λz=>by cases z) h|int i=>let⟨t,q⟩:=(show ∃t,u=Ξ.int i t from rx);cases q;exact kia_one PySem.W.kitx_int I.kIn True.intro e (λz=>by cases z) h|str y=>let⟨t,q⟩:=(show ∃t,u=Ξ.str y t from rx);cases q;exact kia_one PySem.W.kitx_str I.kIn True.intro e (λz=>by cases z) h|flt y=>let⟨t,q⟩:=(show ∃t,u=Ξ.float y t from rx);cases q;exact kia_one PySem.W.kitx_float I.kIn True.intro e (λz=>by cases z) h| @lst a xs ea=>cases(show u=Ξ.ref a from rx);let⟨_,_,n,_,h1⟩:=(show ObjOk X.prog X.w H s.heap a (.lst xs) from I.hok a _ ea);exact kia_one kitx_list I.kIn ⟨_,h1,rfl⟩ e (λz=>by cases z) h| @frz a ob xs ea=>cases(show u=Ξ.ref a from rx);let⟨_,_,_,n,_,h1⟩:=(show ObjOk X.prog X.w H s.heap a (.frz ob (.lst xs)) from I.hok a _ ea);exact kia_one kitx_list I.kIn ⟨_,h1,rfl⟩ e (λz=>by cases z) h| @tup a xs ea=>cases(show u=Ξ.ref a from rx);let⟨_,_,_,p⟩:=(show ObjOk X.prog X.w H s.heap a (.tup xs) from I.hok a _ ea);let⟨o,h1,h2,_⟩:=p;exact kia_one PySem.W.kitx_tuple I.kIn ⟨o,h1,h2⟩ e (λz=>by cases z) h| @dK a kvs ea=>cases(show u=Ξ.ref a from rx);let⟨_,_,vs,_,p⟩:=(show ObjOk X.prog X.w H s.heap a (.dK kvs) from I.hok a _ ea);let⟨o,es,ep,h1,h2,_⟩:=p;exact kia_one kitx_dict I.kIn ⟨o,h1,h2.1⟩ e (λz=>by cases z) h| @dT a kvs ea=>cases(show u=Ξ.ref a from rx);let⟨_,_,xs,_,o,es,ep,h1,h2,_⟩:=(show ObjOk X.prog X.w H s.heap a (.dT kvs) from I.hok a _ ea);exact kia_one kitx_dict I.kIn ⟨o,h1,h2.1⟩ e (λz=>by cases z) h| @ins a C dx fs ea cl ha hn htk hm=>cases(show u=Ξ.ref a from rx);let⟨mA,O,_⟩:=zfR I.hok ea;let⟨od,J,_⟩:=O.look;exact kia_one (PySem.W.kitx_own (cl.get _) cl.hd ha hn htk hm) I.kIn J e (λz=>by cases z) h
end
structure Room(k:Nat)(A:ϐ):Prop where
 hd:A.handled=Ψ
 dp:A.depth+3*k+5<recursionLimit
 un:A.units+16*k+200<cLine
def Room.mono(r:Room k A)(h:j<=k):Room j A:=⟨r.hd,by have:=r.dp;lia,by have:=r.un;lia⟩
def Room.deeper(r:Room (k+1) A)(env):Room k (A.deeper env):=⟨r.hd,by have:=r.dp;show A.depth+1+3*k+5<_;lia,by have:=r.un;show A.units+3+16*k+200<_;lia⟩
def Room.in1(r:Room (k+1) A):Room k A.in1:=⟨r.hd,by have:=r.dp;show A.depth+3*k+5<_;lia,by have:=r.un;show A.units+1+16*k+200<_;lia⟩
def zjA{A:ϐ}:(A.under (.builtin "type.__call__" ⟨.ref C::us,a⟩)).depth=A.depth+1:=by first|rfl|simp[ϐ.under,Code.weight,Code.isCreation,Code.isGuard,Code.isCaller,Code.frames,Code.isFrame,guardIds]
def zjz{A:ϐ}:(A.under (.builtin "type.__call__" ⟨.ref C::us,a⟩)).units=A.units+1:=by first|rfl|simp[ϐ.under,Code.cUnits,Code.frames,Code.isFrame]
def Room.make(r:Room (k+1) A)(C)(us)(a):Room k (A.under (.builtin "type.__call__" ⟨.ref C::us,a⟩)):=⟨r.hd,by have:=r.dp;rw[zjA];lia,by have:=r.un;rw[zjz];lia⟩
def Room.depth(r:Room k A):A.depth<recursionLimit:=by have:=r.dp;lia
abbrev tNil:TA:=λ_ H Q=>Q [] H
abbrev zex(b:TE)(c:TA):TA:=λa H Q=>b a H λx d=>c a d λe f=>Q (x::e) f
section
variable{X:Cx}{e:Expr}{es:List Expr}{te:TE}{t:TA}{pos:Pos}
def zeP:PA X [] tNil:=λ_ _ _ _ H Q I h=>Calls.spliced_nil ⟨[],H,I,.nil,h⟩
def zby(c:PE X e te)(d:PA X es t)(hs:starEach (e::es) X.env=(Δ,eval e X.env)::starEach es X.env:=by rfl):PA X (e::es) (zex te t):=by intro pos a s b H Q I h;rw[hs];show wpAny _ _ (spliced ((Δ,eval e X.env)::backTo pos (starEach es X.env))) _ _ s;refine Calls.spliced_cons (thn (c a s b H _ I h) λu f z=>?_);let⟨x,g,i,j,l⟩:=z;exact thn (d pos a f b g _ i l) λr v k=>(by let⟨m,n,o,p,q⟩:=k;exact ⟨x::m,n,o,.cons j p,q⟩)
abbrev tTup(t:TA):TE:=λc H Q=>t c H λa b=>a.length<=sizeLine/\∀p,b p=Ψ->Q (.ref p) (upd b p (.tup a))
abbrev tLst(t:TA):TE:=λc H Q=>t c H λa b=>a.length<=sizeLine/\∀p,b p=Ψ->Q (.ref p) (upd b p (.lst a))
def zoH(h:PA X es t):PE X (.Tuple es m pos) (tTup t):=by intro a s g H Q I i;refine wpAny_Tuple_spliced (thn (h pos a s g H _ I i) λj c ⟨k,d,f,r,z,q⟩=>⟨by rw[<-r.length];exact z,?_⟩);have l:d c.heap.objs.size=Ψ:=f.hok.fresh (le_refl _);refine⟨.ref c.heap.objs.size,upd d c.heap.objs.size (.tup k),f.laid (t':=c.toks) (λb u e=>Λ _ e) (le_refl _) ?_,rfl,q _ l⟩;exact⟨z,j,r,⟨_,Ζ _ rfl,rfl,_,rfl⟩⟩
def zsZ(h:PA X es t):PE X (.List es pos) (tLst t):=by intro a s g H Q I i;refine wpAny_List_spliced (thn (h pos a s g H _ I i) λj c ⟨k,d,f,r,z,q⟩=>⟨by rw[<-r.length];exact z,?_⟩);have l:d c.heap.objs.size=Ψ:=f.hok.fresh (le_refl _);refine⟨.ref c.heap.objs.size,upd d c.heap.objs.size (.lst k),f.laid (t':=c.toks) (λb u e=>Λ _ e) (le_refl _) ?_,rfl,q _ l⟩;exact⟨z,j,0,r,Ζ _ rfl⟩
end
@[reducible]def Sp:=List V->Hp->VK->XK->Prop
@[reducible]def CXT:=List Env->Hp->Β->XK->Ξ->Β->Prop
structure Env0(P:ϊ)(w:ό)(K:Frag)(mg:Str->Option Ξ)(base:Heap)(A:ϐ)(outer:List Env)(s:Β)(H:Hp):Prop where
 frames:A.frames=Φ outer
 mod:Mod K mg base
 bs:∀b o,base.get? b=Φ o->s.heap.get? b=Φ o/\H b=Ψ
 bsz:base.objs.size<=s.heap.objs.size
 funs:s.heap.FunFrames base outer
 frf:∀b∈frs outer,H b=Ψ
 hok:HOk P w H s.heap
 bare:AllBare s.gens
abbrev CE(outer:List Env)(P:ϊ)(w:ό)(H:Hp)(s:Β)(Q:VK)(u:Ξ)(s':Β):Prop:=∃v a,s'.os=s.os/\AllBare s'.gens/\Un (frs outer) [] H a s.heap s'.heap/\HOk P w a s'.heap/\RelV v u/\Q v a
abbrev CR(CX:CXT)(outer:List Env)(P:ϊ)(w:ό)(H:Hp)(s:Β)(Q:VK)(E:XK)(r:Result)(s':Β):Prop:=match r with|.ok (.ret u)=>CE outer P w H s Q u s'|.ok _=>False|.error e=>CX outer H s E e s'
structure FnOk(P:ϊ)(w:ό)(K:Frag)(mg:Str->Option Ξ)(base:Heap)(CX:CXT)(k:Nat)(f:Addr)(fd:FuncData)(ps:List Str)(sp:Sp):Prop where
 len:∀vs H Q E,sp vs H Q E->vs.length=ps.length
 run:∀(A:ϐ)(outer:List Env)(s:Β)(H:Hp)(args:Args)(us:List Ξ)(vs:List V)(Q:VK)(E:XK),Room k A->Env0 P w K mg base A outer s H->BindsTo s fd args (ps.zip us)->Vals vs us->sp vs H Q E->
  codeAny (model P w) A (.call (.ref f) args) (CR CX outer P w H s Q E) s
def FnOk.mono{K}(F:FnOk P w K b base CX j f fd ps sp)(h:j<=k):
 FnOk P w K b base CX k f fd ps sp:=⟨F.len,λA a s H args c d Q E e=>F.run A a s H args c d Q E (e.mono h)⟩
def Env0.make{K}(e:Env0 P w K a base A outer s H)(C)(us)(b):
 Env0 P w K a base (A.under (.builtin "type.__call__" ⟨.ref C::us,b⟩)) outer s H:=⟨by first|exact e.frames|(simpa[ϐ.under,Code.envs,Code.isFrame,pushEnvs]using e.frames),e.mod,e.bs,e.bsz,e.funs,e.frf,e.hok,e.bare⟩
def Env0.in1{K}(e:Env0 P w K a base A outer s H):
 Env0 P w K a base A.in1 outer s H:=⟨e.frames,e.mod,e.bs,e.bsz,e.funs,e.frf,e.hok,e.bare⟩
section
variable{X:Cx}{pins:List (Addr×Obj)}{σ:St}{H:Hp}{s s':Β}
def Inv.env0(I:Inv X pins σ H s):Env0 X.prog X.w X.K X.mg X.base X.A X.stack s H:=⟨I.ok.frames,I.ok.mod,I.bs,le_trans I.ok.bsz I.sz,I.stack,I.stkFree,I.hok,I.bare⟩
def Inv.after(I:Inv X pins σ H s)(h:CE X.stack X.prog X.w H s Q u s'):EP X pins σ Q u s':=by let⟨v,f,os,a,i,c,r,q⟩:=h;let⟨j,g,d,t,e⟩:=s';obtain rfl:e=s.os:=os;exact⟨v,f,I.call (h':=j) (g':=g) (d':=d) (t':=t) (ch:=[]) i c a (λb z=>absurd z (by simp)),r,q⟩
end
abbrev zfi(sp:Sp)(a:List V)(E:XK)(t:TA):TE:=λb H Q=>t b H λc d=>sp (c++a) d Q E
abbrev zpr(C:Addr)(sp:Sp)(b:List V)(E:XK)(t:TA):TE:=λd H Q=>t d H λe c=>∀x a,c x=Ψ->c a=Ψ->a≠x->
 sp (.ref x::(e++b)) (upd (upd c a (.own x)) x (.ins C a [])) (λv f=>v=.non/\Q (.ref x) f) E
abbrev Binds(K:Frag)(fd:FuncData)(ps:List Str)(ds:List Ξ):Prop:=∀(s:Β)(a:List Ξ),K.In s.heap->(a++ds).length=ps.length->BindsTo s fd ⟨a,[]⟩ (ps.zip (a++ds))
def Binds.all{K}(h:∀us:List Ξ,us.length=ps.length->bindArgs fd ⟨us,[]⟩=pure (ps.zip us)):Binds K fd ps []:=λs us _ a=>by rw[Ϥ]at a⊢;exact .of_eq (h us a)
abbrev zew(CX:CXT)(X:Cx)(E:XK):Prop:=∀(a:List (Addr×Obj))(c:St)(H:Hp)(s:Β)(e:Ξ)(b:Β),Inv X a c H s->CX X.stack H s E e b->X.xe e b
section
variable{X:Cx}{CX:CXT}{k:Nat}{f C:Addr}{fd:FuncData}{ps:List Str}{sp:Sp}{dvs:List V}{ds:List Ξ}{E:XK}{x m:Str}{p pos apos:Pos}{e o:Expr}{es:List Expr}{ta:TE}{t:TA}
def zgi(F:FnOk X.prog X.w X.K X.mg X.base CX k f fd ps sp)(g:Room k X.A)(i:Binds X.K fd ps ds)(hd:Vals dvs ds)(j:zew CX X E)(I:Inv X a c H s)(r:Vals vs us)(h:sp (vs++dvs) H Q E):wpAny (model X.prog X.w) X.A (call (.ref f) us) (EP X a c Q) X.xe s:=by
 have d:Vals (vs++dvs) (us++ds):=r.append hd;have l:(us++ds).length=ps.length:=by rw[<-d.length];exact F.len _ _ _ _ h
 refine wpAny_call (Ϟ (F.run X.A X.stack s H ⟨us,[]⟩ (us++ds) (vs++dvs) Q E g I.env0 (i s us I.kIn l) d h) λr n b=>?_);cases r with|error e=>exact j a c H s e n I b| ok q=>cases q with|ret u=>exact I.after b|next=>exact False.elim b|brk=>exact False.elim b|cont=>exact False.elim b
def zqy(F:FnOk X.prog X.w X.K X.mg X.base CX k f fd ps sp)(g:Room k X.A)(i:Gl X x)(j:X.mg x=Φ (.ref f))(l:keepIn X.K (.ref f)=Γ)(n:Binds X.K fd ps ds)(hd:Vals dvs ds)(u:zew CX X E)
  (v:PA X (e::es) t) (b:(x==("__debug__":Str))=Δ:=by decide) (w:starEach (e::es) X.env=(Δ,eval e X.env)::starEach es X.env:=by rfl) (c:(backTo pos (starEach es X.env)).any (·.1)=Δ:=by rfl) :
  PE X (.Call (.Name x p) (e::es) [] pos) (zfi sp dvs E t):=by
 intro a s y H Q I h;refine Ϙ (zd8 I i j ?_ b);refine callWith_K (h₀:=X.base) I.ok.mod.kin l (thn (v pos a s y H _ I h) λz A k=>eY k λB G d r q=>⟨d.kIn,?_⟩) w c;exact zgi F g n hd u d r q
def znw(F:FnOk X.prog X.w X.K X.mg X.base CX k f fd ps sp)(c:Room k X.A)(d:Gl X x)(g:X.mg x=Φ (.ref f))(i:keepIn X.K (.ref f)=Γ)(j:Binds X.K fd ps ds)(hd:Vals dvs ds)(l:zew CX X E)
  (a:(x==("__debug__":Str))=Δ:=by decide):PE X (.Call (.Name x p) [] [] pos) (zfi sp dvs E tNil):=by
 intro b s n H Q I h;refine Ϙ (zd8 I d g ?_ a);exact callWith_K0 I.kIn i (zgi (us:=[]) F c j hd l I .nil h)
structure Mk(K:Frag)(C f:Addr):Prop where
 makes:makesIn K C=Γ
 init:findIn K (.ref C) "__init__"=Φ (Φ (.ref f))
 fn:isFn K (.ref f)=Γ
 kp:keepIn K (.ref C)=Γ
def zim(M:Mk X.K C f)(F:FnOk X.prog X.w X.K X.mg X.base CX k f fd ps sp)(l:Room (k+1) X.A)(n:Binds X.K fd ps ds)(hd:Vals dvs ds)(q:zew CX X E)(I:Inv X b g H s)(r:Vals vs us)(h:∀x c,H x=Ψ->H c=Ψ->c≠x->sp (.ref x::(vs++dvs)) (upd (upd H c (.own x)) x (.ins C c [])) (λv w=>v=.non/\Q (.ref x) w) E):
  wpAny (model X.prog X.w) X.A (call (.ref C) us) (EP X b g Q) X.xe s:=by
 have i:=h (s.heap.objs.size+1) s.heap.objs.size (I.hok.fresh (le_succ _)) (I.hok.fresh (le_refl _)) (ne_of_lt (ϗ _));have d:=Inv.made (C:=C) I;have j:Vals (V.ref (s.heap.objs.size+1)::(vs++dvs)) (Ξ.ref (s.heap.objs.size+1)::(us++ds)):=.cons rfl (r.append hd);have y:(Ξ.ref (s.heap.objs.size+1)::us++ds).length=ps.length:=by have e:=j.length;rw[F.len _ _ _ _ i]at e;exact e.symm
 refine wpAny_call (znA (f:=f) I.kIn M.makes M.init (beq_iff_eq.mp M.fn) (Ϟ (F.run _ X.stack _ _ ⟨Ξ.ref (s.heap.objs.size+1)::us,[]⟩ (Ξ.ref (s.heap.objs.size+1)::(us++ds)) _ _ E (l.make C us [])
  (d.env0.make C us []) (n _ (Ξ.ref (s.heap.objs.size+1)::us) d.kIn y) j i) λr z a=>?_))
 cases r with|error e=>exact q b g _ _ e z d a| ok A=>cases A with| ret u=>let⟨v,B,G,J,L,N⟩:=d.after a;subst L;exact⟨J,⟨V.ref (s.heap.objs.size+1),B,G,rfl,N⟩⟩|next=>exact False.elim a|brk=>exact False.elim a|cont=>exact False.elim a
def zqw(M:Mk X.K C f)(F:FnOk X.prog X.w X.K X.mg X.base CX k f fd ps sp)(g:Room (k+1) X.A)(i:Gl X x)(j:X.mg x=Φ (.ref C))(l:Binds X.K fd ps ds)(hd:Vals dvs ds)(n:zew CX X E)
  (u:PA X (e::es) t) (b:(x==("__debug__":Str))=Δ:=by decide) (v:starEach (e::es) X.env=(Δ,eval e X.env)::starEach es X.env:=by rfl) (c:(backTo pos (starEach es X.env)).any (·.1)=Δ:=by rfl) :
  PE X (.Call (.Name x p) (e::es) [] pos) (zpr C sp dvs E t):=by
 intro a s w H Q I h;refine Ϙ (zd8 I i j ?_ b);refine callWith_K (h₀:=X.base) I.ok.mod.kin M.kp (thn (u pos a s w H _ I h) λy A z=>eY z λB G d r q=>⟨d.kIn,?_⟩) v c;exact zim M F g l hd n d r q
def znn(M:Mk X.K C f)(F:FnOk X.prog X.w X.K X.mg X.base CX k f fd ps sp)(c:Room (k+1) X.A)(d:Gl X x)(g:X.mg x=Φ (.ref C))(i:Binds X.K fd ps ds)(hd:Vals dvs ds)(j:zew CX X E)
  (a:(x==("__debug__":Str))=Δ:=by decide):PE X (.Call (.Name x p) [] [] pos) (zpr C sp dvs E tNil):=by
 intro b s l H Q I h;refine Ϙ (zd8 I d g ?_ a);exact callWith_K0 I.kIn M.kp (zim (us:=[]) M F c i hd j I .nil h)
end
abbrev PK(X:Cx)(b:List Keyword)(t:TA):Prop:=∀(pos:Pos)(a:List (Addr×Obj))(s:Β)(c:St)(H:Hp)(Q:List V->Hp->Prop),Inv X a c H s->t c H Q->wpAny (model X.prog X.w) X.A (evalAll ((backToKw pos (keywordEach b X.env)).map (·.2))) (AP X a c Q) X.xe s
section
variable{X:Cx}{CX:CXT}{k:Nat}{f C:Addr}{fd:FuncData}{ps ks:List Str}{sp:Sp}{E:XK}{x m:Str}{p pos apos kpos:Pos}{e o:Expr}{es:List Expr}{kws:List Keyword}{te ta:TE}{t tk:TA}{nm:Option Str}
def zoG:PK X [] tNil:=λ_ _ _ _ H Q I h=>wpAny_evalAll_nil ⟨[],H,I,.nil,h⟩
def zkX(c:PE X e te)(d:PK X kws t):PK X (⟨nm,e,kpos⟩::kws) (zex te t):=by intro pos a s b H Q I h;show wpAny _ _ (evalAll ((do let v <-eval e X.env;standAt pos;pure v)::(backToKw pos (keywordEach kws X.env)).map (·.2))) _ _ s;refine wpAny_evalAll_cons (Θ (thn (c a s b H _ I h) λu g z=>eY z λx i j l n=>Θ (wpAny_standAt (Ω ?_))));exact thn (d pos a g b i _ j n) λB G z=>(by let⟨q,r,w,y,A⟩:=z;exact ⟨x::q,r,w,.cons l y,A⟩)
structure KBinds(K:Frag)(fd:FuncData)(ps ks:List Str)(g:List Ξ->List Ξ->List Ξ)(gV:List V->List V->List V):Prop where
 to:∀(s:Β)(us ws:List Ξ),K.In s.heap->(g us ws).length=ps.length->BindsTo s fd ⟨us,ks.zip ws⟩ (ps.zip (g us ws))
 rel:∀{vs:List V}{us:List Ξ}{zs:List V}{ws:List Ξ},Vals vs us->Vals zs ws->Vals (gV vs zs) (g us ws)
end
structure FnScope(N P:List Str)(sc:Scope):Prop where
 kind:sc.kind=.function
 co:sc.isCoroutine=Δ
 gen:sc.isGenerator=Δ
 nd:N.Nodup
 pre:N.take P.length=P
 par:∀x∈P,sc.names.lookup x=Φ .local\/sc.names.lookup x=Φ .cell
 nofree:∀y∈sc.names,y.2≠.free
def zhe{kindOf}:∀{a:List (Str×Ξ)}{m:Str->Option Ξ},(∀v,(x,v)∉a)->bindL kindOf a m x=m x
 | [],_,_=>rfl| (n,v)::r,m,h=>by
  unfold bindL;rw[zhe λw b=>h w (Κ _ b)];split;have:x≠n:=by rintro rfl;exact h v Μ
  simp[this];rfl
def zhg{kindOf}:∀{a:List (Str×Ξ)}{m:Str->Option Ξ},(∀v,(x,v)∉a)->bindC kindOf a m x=m x
 | [],_,_=>rfl| (n,v)::r,m,h=>by
  unfold bindC;rw[zhg λw b=>h w (Κ _ b)];split;rfl;have:x≠n:=by rintro rfl;exact h v Μ
  simp[this]
def zhf{kindOf}:∀{P:List Str}{vs:List Ξ}{i:Nat}{m:Str->Option Ξ},P.Nodup->P[i]?=Φ x->vs[i]?=Φ v->kindOf x=Φ .local->
  bindL kindOf (P.zip vs) m x=Φ v
 | [],_,_,_,_,h,_,_=>by simp at h|_::_,[],_,_,_,_,h,_=>by simp at h| p::P,w::vs,0,m,c,a,b,d=>by simp at a b;subst a;subst b;show bindL kindOf ((p,w)::P.zip vs) m p=_;unfold bindL;rw[zhe λv e=>(nodup_cons.mp c).1 (of_mem_zip e).1,if_pos d];simp| p::P,w::vs,i+1,m,c,a,b,d=>by show bindL kindOf ((p,w)::P.zip vs) m x=_;unfold bindL;exact zhf (i:=i) (nodup_cons.mp c).2 (by simpa using a) (by simpa using b) d
def zhh{kindOf}:∀{P:List Str}{vs:List Ξ}{i:Nat}{m:Str->Option Ξ},P.Nodup->P[i]?=Φ x->vs[i]?=Φ v->kindOf x≠Φ .local->
  bindC kindOf (P.zip vs) m x=Φ v
 | [],_,_,_,_,h,_,_=>by simp at h|_::_,[],_,_,_,_,h,_=>by simp at h| p::P,w::vs,0,m,c,a,b,d=>by simp at a b;subst a;subst b;show bindC kindOf ((p,w)::P.zip vs) m p=_;unfold bindC;rw[zhg λv e=>(nodup_cons.mp c).1 (of_mem_zip e).1,if_neg d];simp| p::P,w::vs,i+1,m,c,a,b,d=>by show bindC kindOf ((p,w)::P.zip vs) m x=_;unfold bindC;exact zhh (i:=i) (nodup_cons.mp c).2 (by simpa using a) (by simpa using b) d
abbrev start(N:List Str)(vs:List V):St:=vs.map Φ++List.replicate (N.length-vs.length) Ψ
abbrev cxOf(CX:CXT)(P:ϊ)(w:ό)(K:Frag)(mg:Str->Option Ξ)(base:Heap)(N:List Str)(a:Str)(scope:Scope)(f:Addr)(c:Ξ)(A:ϐ)(outer:List Env)(s:Β)(H:Hp)(E:XK):Cx where
 prog:=P
 w:=w
 K:=K
 mg:=mg
 base:=base
 A:=A.deeper (envOfC a scope s.heap.objs.size f c)
 N:=N
 s₀:=s
 H₀:=H
 env:=envOfC a scope s.heap.objs.size f c
 outer:=outer
 stack:=envOfC a scope s.heap.objs.size f c::outer
 ex:=[]
 calm:=Γ
 fn:=λ_=>Γ
 pn:=[]
 xe:=λe d=>wpAny (model P w) (A.deeper (envOfC a scope s.heap.objs.size f c)) (leaving (envOfC a scope s.heap.objs.size f c) e) (λ_ b=>CX outer H s E e b) (λg b=>CX outer H s E g b) d
def ziZ{a:Scope}(h:a.names.lookup x=Φ .cell):∃c,(cellsFrom n a.names []).lookup x=Φ c:=by have q:=cellsFrom_some a.names n [] (.inl h);exact Option.isSome_iff_exists.mp q
def zeb{K}(S:FnScope N ps scope)(hd:A.handled=Ψ)(j:Env0 P w K I base A outer s H)(U:vs.length=ps.length)(r:Vals vs us)(x:InCallC s s.heap.objs.size (bindL (envOfC g scope s.heap.objs.size f G).kindOf (ps.zip us) λ_=>Ψ) (cellsFrom (s.heap.objs.size+1) scope.names []) (bindC (envOfC g scope s.heap.objs.size f G).kindOf (ps.zip us) λ_=>Ψ) M):
  Inv (cxOf CX P w K I base N g scope f G A outer s H E) [] (start N vs) H M:=by
 have O:ps.length<=N.length:=by have:=congrArg List.length S.pre;rw[length_take]at this;lia
 let⟨B,Y,rfl,J⟩:=x.done;have l:∀b:Addr,b∉(cxOf CX P w K I base N g scope f G A outer s H E).ex:=λb z=>absurd (show b∈([]:List Addr) from z) (by simp);refine⟨⟨j.mod,S.kind,rfl,rfl,le_refl _,λy z c B d=>?_,λy m=>?_,λy c _ h=>?_,λ_=>hd,ϐ.frames_deeper j.frames,.inr ⟨rfl,rfl⟩,λb z=>absurd z (l b),j.bs,j.bsz,λb _ _=>l b,λb z=>absurd z (l b),j.funs,j.frf⟩,
  rfl,j.bare,Un.kept J,⟨_,x.toInCall.ns,λi y v B d h3=>?_⟩,λy c h=>⟨_,x.cell y c h⟩,j.hok.fresh (le_refl _),λy c h=>?_,λp o=>absurd (show p∈([]:List (Addr×Obj)) from o) (by simp),j.hok.kept J,?_⟩
 exact name_of_addr x.apart (ϓ B) (ϓ d);have m:scope.names.lookup y=Φ .cell\/scope.names.lookup y=Φ .free:=m;rcases m with m|m;exact ziZ m;exact absurd rfl (S.nofree _ (ϓ m));exact le_of_lt (x.above y c (ϓ h));have C:i<vs.length:=by
  unfold start at d;by_cases C:i<vs.length;exact C
  . rw[getElem?_append_right (by simpa using C)]at d;rw[List.getElem?_replicate]at d;split at d<;>cases d
 have Q:vs[i]?=Φ v:=by
  unfold start at d;rw[getElem?_append_left (by simpa using C),getElem?_map]at d;cases e:vs[i]? with
  |none=>rw[e]at d;exact nS d
  |some a=>rw[e]at d;cases d;rfl
 let⟨u,L,T⟩:=r.get Q;have o:ps[i]?=Φ y:=by rw[<-S.pre,List.getElem?_take_of_lt (by lia)];exact B
 have t:ps.Nodup:=by rw[<-S.pre];exact S.nd.sublist (List.take_sublist _ _)
 refine⟨u,T,?_⟩;rcases S.par y (mem_of_getElem? o) with k|k;exact .inl ⟨k,zhf t o L k⟩;let⟨c,e⟩:=ziZ (n:=s.heap.objs.size+1) k;refine .inr ⟨.inl k,c,e,?_⟩;have q:=x.cell y c e;rw[zhh t o L (by show scope.names.lookup y≠_;rw[k];decide)]at q;exact q;exact j.hok.fresh (le_of_lt (x.above y c (ϓ h)));unfold start;show _=N.length;rw[length_append,length_map,length_replicate];lia
def zrb{K}{O kV l T c ct oc}(lk:K.lookup f=Φ ⟨oc,od,.func (fnOf name a d body scope O kV l T an c ct),osl⟩)(z:codeIn K c a=Γ)(S:FnScope N ps scope)(len:∀vs H Q E,sp vs H Q E->vs.length=ps.length)(h:∀(A:ϐ)(outer:List Env)(s:Β)(H:Hp)(vs:List V)(Q:VK)(E:XK),Room k (A.deeper (envOfC a scope s.heap.objs.size f c))->sp vs H Q E->
   ∃t,PSs (cxOf CX P w K B base N a scope f c A outer s H E) body t/\t {nx:=λ_ H'=>Q .non H',rt:=Q} (start N vs) H):
  FnOk P w K B base CX (k+1) f (fnOf name a d body scope O kV l T an c ct) ps sp:=by
 refine⟨len,λA outer s H args us vs Q E C m hb r p=>?_⟩;have hl:=len _ _ _ _ p;have U:K.In s.heap:=m.mod.kin.keeps λb o e=>(m.bs b o e).1;have G:s.heap.NoLimit:=m.mod.nolimit.keeps λb o e=>(m.bs b o e).1;have i:∀y∈ps.zip us,scope.names.lookup y.1=Φ .local\/(scope.names.lookup y.1=Φ .cell/\((cellsFrom (s.heap.objs.size+1) scope.names []).lookup y.1).isSome=Γ):=λ⟨n,v⟩ hy=>by rcases S.par n (of_mem_zip hy).1 with q|q;exact .inl q;exact .inr ⟨q,cellsFrom_some _ _ _ (.inl q)⟩
 refine codeAny_call_function C.depth (U _ _ lk) rfl S.co S.gen rfl (PySem.W.codeRec_of U z) (hb _ _ _ _ ?_);refine wpAny_newFunctionEnv_cells S.kind i λenv he Y x=>?_;subst he;refine⟨G.keeps x.toInCall.keep,codeAny_func ?_⟩;let⟨t,ht,hq⟩:=h A outer s H vs Q E (C.deeper _) p;have I:Inv (cxOf CX P w K B base N a scope f c A outer s H E) [] (start N vs) H Y:=zeb S C.hd m hl r x;refine ύ (ht [] Y (start N vs) H _ I hq) (λfl L j=>?_) λe L j=>j;have fin:∀{g:St}{H':Hp}{v:V}{u:Ξ},Inv (cxOf CX P w K B base N a scope f c A outer s H E) [] g H' L->RelV v u->Q v H'->CE outer P w H s Q u L:=λ{g H' v u} J M q=>⟨v,H',J.os,J.bare,J.base,J.hok,M,q⟩;cases fl with| ret u=>let⟨v,g,H',J,M,q⟩:=j;exact fin J M q| next=>let⟨g,H',J,q⟩:=j;exact fin (v:=V.non) (u:=Ξ.none) J rfl q| brk=>let⟨_,_,_,q⟩:=j;exact False.elim q| cont=>let⟨_,_,_,q⟩:=j;exact False.elim q
section
variable{X:Cx}{x:Str}{p pos:Pos}{e:Expr}{es:List Expr}{t:TA}{id T:String}{r:List V->Hp->VK->Prop}
abbrev tCB(r:List V->Hp->VK->Prop)(t:TA):TE:=λa H Q=>t a H λb c=>r b c Q
def zcU(f:zbn X (.builtin id) r)(g:Gl X x)(i:X.mg x=Ψ)(j:bootBuiltins x=Φ (.builtin id))(k:PA X (e::es) t)(l:x≠"__name__":=by decide)(b:(x==("__debug__":Str))=Δ:=by decide)
  (m:starEach (e::es) X.env=(Δ,eval e X.env)::starEach es X.env:=by rfl) (c:(backTo pos (starEach es X.env)).any (·.1)=Δ:=by rfl):PE X (.Call (.Name x p) (e::es) [] pos) (tCB r t):=by
 intro a s d H Q I h;refine Ϙ (zdl I g i j ?_ l b);exact PyProof.Rows.callWith_builtin1 (thn (k pos a s d H _ I h) λn o z=>(by let⟨q,u,v,w,y⟩:=z;exact f a o d u q n Q v w y)) m c
def zbp(f:zbn X (.type T) r)(g:Gl X x)(i:X.mg x=Ψ)(j:bootBuiltins x=Φ (.type T))(k:PA X (e::es) t)(l:x≠"__name__":=by decide)(b:(x==("__debug__":Str))=Δ:=by decide)
  (m:starEach (e::es) X.env=(Δ,eval e X.env)::starEach es X.env:=by rfl) (c:(backTo pos (starEach es X.env)).any (·.1)=Δ:=by rfl):PE X (.Call (.Name x p) (e::es) [] pos) (tCB r t):=by
 intro a s d H Q I h;refine Ϙ (zdl I g i j ?_ l b);exact PyProof.Rows.callWith_type1 (thn (k pos a s d H _ I h) λn o z=>(by let⟨q,u,v,w,y⟩:=z;exact f a o d u q n Q v w y)) m c
end
section
variable{κ:Type}[DecidableEq κ]
abbrev valV(kvs:List (κ×V))(k:κ):Option V:=(kvs.find? λa=>decide (a.1=k)).map (·.2)
abbrev putK(kvs:List (κ×V))(k:κ)(v:V):List (κ×V):=if(kvs.any λa=>decide (a.1=k))=Γ then kvs.map (λa=>if a.1=k then(a.1,v) else a) else kvs++[(k,v)]
def zfd{k:κ}(e:p.1=k):valV (p::r) k=Φ p.2:=by simp[valV,ϑ,e]
def zfe{k:κ}(e:¬p.1=k):valV (p::r) k=valV r k:=by simp[valV,ϑ,e]
def zie(k):∀kvs:List (κ×V),(kvs.any λa=>decide (a.1=k))=(valV kvs k).isSome
 | []=>rfl| p::r=>by rw[any_cons];by_cases e:p.1=k;simp![zfd e,decide_eq_true e,Bool.true_or,Option.isSome_some];rw[zfe e,decide_eq_false e,Bool.false_or];exact zie k r
def zcF(kvs)(k:κ)(v):(putK kvs k v).length<=kvs.length+1:=by unfold putK;split;rw[length_map];lia;rw[length_append,Χ,Ϧ];lia
def RelO.isSome_eq(r:RelO o u):o.isSome=u.isSome:=by
 cases o with
 |none=>cases u with
  |none=>rfl|some _=>exact(show False from r).elim
 |some _=>cases u with|none=>exact(show False from r).elim|some _=>rfl
def RelO.getD(r:RelO o u)(a:RelV d d'):RelV (o.getD d) (u.getD d'):=by
 cases o with
 |none=>cases u with
  |none=>exact a|some _=>exact(show False from r).elim
 |some _=>cases u with|none=>exact(show False from r).elim|some _=>exact r
def KV.val(r:KV kvs vs)(k:κ):RelO (valV kvs k) (valueAt vs k):=by
 unfold KV at r;induction r with
 |nil=>exact True.intro| @cons p q i a h t f=>
  let⟨d,g⟩:=h;by_cases e:p.1=k;have c:q.1=k:=d.symm.trans e;have b:valueAt (q::a) k=Φ q.2:=by simp[valueAt,ϑ,c]
  rw[zfd e,b];exact g;have c:¬q.1=k:=λz=>e (d.trans z);have b:valueAt (q::a) k=valueAt a k:=by simp[valueAt,ϑ,c]
  rw[zfe e,b];exact f
def KV.any(r:KV kvs vs)(k:κ):(kvs.any λa=>decide (a.1=k))=vs.any λa=>decide (a.1=k):=by unfold KV at r;induction r with|nil=>rfl|cons h t b=>rw[any_cons,any_cons,b,h.1]
def KV.repl(r:KV kvs vs)(k:κ)(c:RelV y u):
  KV (kvs.map λa=>if a.1=k then(a.1,y) else a) (vs.map λa=>if a.1=k then(a.1,u) else a):=by
 unfold KV at r⊢;induction r with|nil=>exact .nil| @cons p q g i h t d=>rw[Ν,Ν];refine .cons ?_ d;let⟨b,f⟩:=h;by_cases e:p.1=k;rw[if_pos e,if_pos (b.symm.trans e)];exact⟨b,c⟩;rw[if_neg e,if_neg (λz=>e (b.trans z))];exact⟨b,f⟩
def KV.put(r:KV kvs vs)(k:κ)(a:RelV y u):KV (putK kvs k y) (stored vs k u):=by unfold putK stored;rw[r.any k];by_cases e:(vs.any λb=>decide (b.1=k))=Γ;rw[if_pos e,if_pos e];exact r.repl k a;rw[if_neg e,if_neg e];exact Paired.snoc r ⟨rfl,a⟩
def KV.length{vs:List (κ×Ξ)}(r:KV kvs vs):kvs.length=vs.length:=Paired.length r
end
def znM(r:RelV (kV k) u):(zar P w).is k u=Γ:=by cases k with|inl i=>let⟨t,e⟩:=(show ∃t,u=Ξ.int i t from r);subst e;exact zhJ P w i t|inr x=>let⟨t,e⟩:=(show ∃t,u=Ξ.str x t from r);subst e;exact zhI P w x t
def zgL:∀{ks:List Key}{us:List Ξ},Vals (ks.map kV) us->ItemsAre (zar P w) ks us
 | [],_,r=>by rw[map_nil]at r;cases r;exact .nil| k::ks,_,r=>by rw[Ν]at r;cases r with|cons h t=>exact .cons (znM h) (zgL t)
@[reducible]def KT(H:Hp):List (List Key×V)->List (List Key×Addr×Ξ)->Prop:=Paired λp q=>p.1=q.1/\H q.2.1=Φ (.tup (p.1.map kV))/\RelV p.2 q.2.2
def KT.val(r:KT H kvs xs)(k):RelO (valV kvs k) ((atKey xs k).map (·.2)):=by
 induction r with
 |nil=>exact True.intro| @cons p q i a h t f=>
  let⟨d,_,g⟩:=h;by_cases e:p.1=k;have c:q.1=k:=d.symm.trans e;have b:atKey (q::a) k=Φ q.2:=by simp[atKey,ϑ,c]
  rw[zfd e,b];exact g;have c:¬q.1=k:=λz=>e (d.trans z);have b:atKey (q::a) k=atKey a k:=by simp[atKey,ϑ,c]
  rw[zfe e,b];exact f
def KT.repl(r:KT H kvs xs)(k)(d:RelV y u):
  KT H (kvs.map λb=>if b.1=k then(b.1,y) else b) (xs.map (putAt k u)):=by
 induction r with|nil=>exact .nil| @cons p q i j h t f=>rw[Ν,Ν];refine .cons ?_ f;let⟨a,c,g⟩:=h;unfold putAt;by_cases e:p.1=k;rw[if_pos e,if_pos (a.symm.trans e)];exact⟨a,c,d⟩;rw[if_neg e,if_neg (λz=>e (a.trans z))];exact⟨a,c,g⟩
def KT.put(r:KT H kvs xs)(k)(c:H b=Φ (.tup (k.map kV)))(a:RelV y u):
  KT H (putK kvs k y) (storedH xs k b u):=by
 have e:(kvs.any λd=>decide (d.1=k))=(atKey xs k).isSome:=by rw[zie,(r.val k).isSome_eq,Option.isSome_map]
 unfold putK storedH;rw[e];by_cases q:(atKey xs k).isSome=Γ;rw[if_pos q,if_pos q];exact r.repl k a;rw[if_neg q,if_neg q];exact Paired.snoc r ⟨rfl,c,a⟩
def KT.keeps(r:KT H kvs xs)(a:∀b ys,H b=Φ (.tup ys)->H' b=Φ (.tup ys)):KT H' kvs xs:=Paired.mapP r λ_ _ z=>⟨z.1,a _ _ z.2.1,z.2.2⟩
section
variable{P:ϊ}{w:ό}{H:Hp}{h:Heap}{a:Addr}
def zsI(ok:HOk P w H h)(e:Rd H a u):ObjOk P w H h a u:=e.ok ok
def zrk(ok:HOk P w H h)(e:Rd H a (.dK kvs)):kvs.length<=sizeLine/\(a==sysModules)=Δ/\∃vs,KV kvs vs/\h.DictOf (zar P w) a vs:=show ObjOk P w H h a (.dK kvs) from zsI ok e
def ztR(ok:HOk P w H h)(e:H a=Φ (.dK kvs)):kvs.length<=sizeLine/\(a==sysModules)=Δ/\∃vs,KV kvs vs/\h.DictOf (zar P w) a vs:=zrk ok (.inl e)
def zgJ(ok:HOk P w H h)(e:H a=Φ (.tup (ks.map kV))):(tupleKind (zar P w)).is h ks a:=by let⟨_,b,r,o,c,d,n,f⟩:=(show ObjOk P w H h a (.tup (ks.map kV)) from ok a _ e);exact⟨o,b.toArray,n,c,d,f,by simpa using zgL r⟩
def zri(ok:HOk P w H h)(e:Rd H a (.dT kvs)):kvs.length<=sizeLine/\(a==sysModules)=Δ/\
  ∃xs,KT H kvs xs/\h.DictOfH (tupleKind (zar P w)) a xs:=by
 let⟨z,y,xs,r,o,f,g,i,j,k,n,s⟩:=(show ObjOk P w H h a (.dT kvs) from zsI ok e);refine⟨z,y,xs,r,o,f,g,i,j,k,n,λx b=>?_,s⟩;have c:∀{l:List (List Key×V)}{m:List (List Key×Addr×Ξ)},KT H l m->∀x∈m,(tupleKind (zar P w)).is h x.1 x.2.1:=by
  intro l m q;induction q with
  |nil=>intro x b;exact by cases b
  | @cons p q v A d t u=>intro x b;rcases mem_cons.mp b with e|b;subst e;exact zgJ ok (by rw[<-d.1];exact d.2.1);exact u x b
 exact c r x b
def zu5(ok:HOk P w H h)(e:H a=Φ (.dT kvs)):kvs.length<=sizeLine/\(a==sysModules)=Δ/\
 ∃xs,KT H kvs xs/\h.DictOfH (tupleKind (zar P w)) a xs:=zri ok (.inl e)
end
abbrev DGet(H:Hp)(a:Addr)(y:V)(r:Option V):Prop:=(∃c k,Rd H a (.dK c)/\y=kV k/\r=valV c k)\/∃c k b,Rd H a (.dT c)/\y=.ref b/\H b=Φ (.tup (k.map kV))/\r=valV c k
abbrev DPut(H:Hp)(a:Addr)(y v:V)(H':Hp):Prop:=
 (∃c k,H a=Φ (.dK c)/\y=kV k/\c.length<sizeLine/\H'=upd H a (.dK (putK c k v)))\/
 ∃c k b,H a=Φ (.dT c)/\y=.ref b/\H b=Φ (.tup (k.map kV))/\c.length<sizeLine/\H'=upd H a (.dT (putK c k v))
def DGet.k{k}(e:H a=Φ (.dK kvs)):DGet H a (kV k) (valV kvs k):=.inl ⟨kvs,k,.inl e,rfl,rfl⟩
def DPut.k{k}(e:H a=Φ (.dK kvs))(b:kvs.length<sizeLine):DPut H a (kV k) v (upd H a (.dK (putK kvs k v))):=.inl ⟨kvs,k,e,rfl,b,rfl⟩
section
variable{X:Cx}{pins:List (Addr×Obj)}{σ:St}{H:Hp}{s:Β}{a:Addr}{y v:V}{u r:Ξ}{o:Option V}{A:ϐ}{E:Ξ->Β->Prop}
def Inv.big(I:Inv X pins σ H s):sysModules<s.heap.objs.size:=by have h:mainGlobals<s.heap.objs.size:=(I.mod.glob.keeps I.bk).lt;exact lt_trans (by decide) h
def zfY(I:Inv X pins σ H s)(d:Mut (H a))(hs:Heap.SameBut a s.heap h')(f:∃q,h'.get? a=Φ q)(new:ObjOk X.prog X.w (upd H a c) h' a c):
  Inv X pins σ (upd H a c) {s with heap:=h',toks:=t'}:=
 I.write (x:=a) (e:=a) d (.inl rfl) (λb q g z=>(hs.2 b g).trans z) f new
def zo2(z:kvs.length<=sizeLine)(hd:(a==sysModules)=Δ)(b:KV kvs vs)(c:h'.DictOf (zar P w) a vs):
 ObjOk P w H' h' a (.dK kvs):=⟨z,hd,vs,b,c⟩
def zmb(N:A.units+1<cLine)(I:Inv X pins σ H s)(g:DPut H a y v H')(C:RelV y u)(G:RelV v r)(h:∀s',Inv X pins σ H' s'->Q () s'):
  wpAny (model X.prog X.w) A (setItem (.ref a) u r) Q E s:=by
 rcases g with⟨d,k,e,m,l,n⟩|⟨d,k,b,e,m,J,l,n⟩
 . subst m n;let⟨z,p,O,f,t⟩:=ztR I.hok e;have w:O.length<=sizeLine:=by rw[<-f.length];exact z
   have x:(putK d k v).length<=sizeLine:=by have:=zcF d k v;lia
   refine wpAny_setItem_pairs (hsz:=w) (znM C) t λL i B=>h _ ?_;have T:∃q,L.get? a=Φ q:=let ⟨q,_,_,j,_⟩:=i;⟨q,j⟩;exact zfY I (by rw[e];exact True.intro) B T (zo2 x p (f.put k G) i)
 subst m n;cases(show u=Ξ.ref b from C);let⟨z,p,U,f,t⟩:=zu5 I.hok e;have w:U.length<=sizeLine:=by rw[<-Paired.length f];exact z
 have x:(putK d k v).length<=sizeLine:=by have:=zcF d k v;lia
 refine wpAny_setItem_heap (hsz:=w) (tupleKind_room_in1 N) (zgJ I.hok J) t λL i B=>h _ ?_;let⟨q,Y,ep,j,h2,h3,h4,_,h5⟩:=i;refine zfY I (by rw[e];exact True.intro) B ⟨q,j⟩ ⟨x,p,_,(f.put k J G).keeps λc ys M=>?_,q,Y,ep,j,h2,h3,h4,h5⟩;rw[zad (ne_of M e (λz=>by cases z))];exact M
end
abbrev zsE(d e f:TE):TS:=λD b H=>f b H λv g=>d b g λx h=>e b h λy i=>∃a c,x=.ref a/\DPut i a y v c/\D.nx b c
section
variable{X:Cx}{o i e value:Expr}{pos pos' tpos:Pos}{td ty tv:TE}
def zqo(d:X.A.units+1<cLine)(f:PE X o td)(j:PE X i ty)(k:PE X value tv)(hs:swapsWith value (Φ (.Subscript o i pos')) pos.line X.env=pure Δ) :
  PS X (.Assign [.Subscript o i pos'] value pos) (zsE td ty tv):=by
 intro b s c H D I h;refine wpAny_Assign_Subscript (thn (k b s c H _ I h) λr l z=>eY z λv m n p q=>thn (f b l c m _ n q) λu t z=>eY z λx w A B C=>thn (j b t c w _ A C) λO Q z=>?_) hs;let⟨y,T,E,G,a,J,L,g,M⟩:=z;subst L;obtain rfl:u=Ξ.ref a:=B;exact zmb d E g G p λU N=>⟨c,J,N,M⟩
end
def zn1(h:Heap)(a:sysModules<h.objs.size):ObjOk P w H (h.push {cls:=.type "dict",data:=.dict #[]}) h.objs.size (.dK []):=⟨zero_le _,beq_eq_false_iff_ne.mpr (Ne.symm (ne_of_lt a)),[],.nil,Heap.DictOf.new h⟩
abbrev zkd:TE:=λ_ H Q=>∀p,H p=Ψ->Q (.ref p) (upd H p (.dK []))
section
variable{X:Cx}{pos:Pos}
def ziz:PE X (.Dict [] [] pos) zkd:=λb s c H Q I h=>wpAny_Dict_empty ⟨.ref s.heap.objs.size,_,I.laid (a:=s.heap.objs.size) (o:=.dK []) (t':=s.toks) (λ_ _ q=>Λ _ q) (le_refl _) (zn1 s.heap I.big),rfl,h _ (I.hok.fresh (le_refl _))⟩
end
structure M1(X:Cx)(o:Expr)(m:Str)(apos:Pos)(e:Expr)(cpos:Pos):Prop where
 base:attributeBase o m X.env (eval o X.env)=eval o X.env
 few:((backTo cpos (starEach [e] X.env)).all (λx=>!x.1)&&(backToKw cpos (keywordEach [] X.env)).all (λx=>x.1.isSome)
  && decide (([e]:List Expr).length+([]:List Keyword).length+(if([]:List Keyword).isEmpty then 0 else 1)<30))=Γ
 line:(apos.endLine==cpos.line)=Γ
 trees:backTo cpos (starEach [e] X.env)=[(Δ,eval e X.env)]
structure M2(X:Cx)(o:Expr)(m:Str)(apos:Pos)(e f:Expr)(cpos:Pos):Prop where
 base:attributeBase o m X.env (eval o X.env)=eval o X.env
 few:((backTo cpos (starEach [e,f] X.env)).all (λx=>!x.1)&&(backToKw cpos (keywordEach [] X.env)).all (λx=>x.1.isSome)
  && decide (([e,f]:List Expr).length+([]:List Keyword).length+(if([]:List Keyword).isEmpty then 0 else 1)<30))=Γ
 line:(apos.endLine==cpos.line)=Γ
 trees:backTo cpos (starEach [e,f] X.env)=[(Δ,eval e X.env),(Δ,eval f X.env)]
abbrev IsD(H:Hp)(a:Addr):Prop:=(∃b,Rd H a (.dK b))\/∃b,Rd H a (.dT b)
def zlL(I:Inv X k l H s)(d:IsD H a):
  s.TypeIs (.ref a) "dict"/\(∀b,Ξ.ref a=.ref b->∃c,s.heap.get? b=Φ c/\c.dict=Ψ)/\(a==sysModules)=Δ:=by
 rcases d with⟨g,e⟩|⟨g,e⟩;let⟨_,h,m,_,f⟩:=zrk I.hok e;refine⟨f.typeIs,λb q=>?_,h⟩;cases q;let⟨c,_,_,i,j,_⟩:=f;exact⟨c,i,j.2.1⟩;let⟨_,h,n,_,f⟩:=zri I.hok e;refine⟨f.typeIs,λb q=>?_,h⟩;cases q;let⟨c,_,_,i,j,_⟩:=f;exact⟨c,i,j.2.1⟩
section
variable{X:Cx}{pins:List (Addr×Obj)}{σ:St}{H:Hp}{s:Β}{a:Addr}{y d:V}{u r:Ξ}{o:Option V}{A:ϐ}{E:Ξ->Β->Prop}
def ztS(q:A.units+1<cLine)(I:Inv X pins σ H s)(g:DGet H a y o)(n:RelV y u)(p:RelV d r)(h:∀w' s',Inv X pins σ H s'->RelV (o.getD d) w'->Q w' s'):
  wpAny (model X.prog X.w) A (call (.builtin "dict.get") [.ref a,u,r]) Q E s:=by
 rcases g with⟨i,k,e,j,l⟩|⟨i,k,b,e,j,t,l⟩;subst j;let⟨z,m,w,c,f⟩:=zrk I.hok e;refine call_meetsIn PySem.F.slot_dict_get f.typeIs PySem.F.entry_dict_get (PySem.F.args_dict_get_3 _ _ _) (meets_dict_get_default (zar X.prog X.w) a (znM n) m r) ⟨_,f.mapOf,h _ _ (I.tok _) ?_⟩;rw[l];exact(c.val k).getD p;subst j;cases(show u=Ξ.ref b from n);let⟨z,m,v,c,f⟩:=zri I.hok e;refine call_meetsIn PySem.F.slot_dict_get f.typeIs PySem.F.entry_dict_get (PySem.F.args_dict_get_3 _ _ _) (meetsH_dict_get_default (tupleKind (zar X.prog X.w)) a b m r) ⟨tupleKind_room_in1 q,k,v,zgJ I.hok t,f,h _ _ (I.tok _) ?_⟩;rw[l];exact(c.val k).getD p
end
abbrev zom(e f g:TE):TE:=λb H Q=>e b H λx c=>∃a,x=.ref a/\IsD c a/\f b c λy h=>g b h λz d=>∃o,DGet d a y o/\Q (o.getD z) d
section
variable{X:Cx}{o e f:Expr}{apos cpos:Pos}{td ty tx:TE}
def ziA(l:X.A.units+1<cLine)(n:PE X o td)(p:PE X e ty)(q:PE X f tx)(m:M2 X o "get" apos e f cpos):PE X (.Call (.Attribute o "get" apos) [e,f] [] cpos) (zom td ty tx):=by intro b s c H Q I h;refine wpAny_Call_method m.base m.few m.line PySem.F.plainAttrs_dict PySem.F.slot_dict_get PySem.F.type_dict_get (thn (n b s c H _ I h) λu r k=>?_);let⟨x,t,j,v,a,w,d,A⟩:=k;subst w;obtain rfl:u=Ξ.ref a:=v;let⟨B,t2,_⟩:=zlL j d;refine⟨B,t2,?_⟩;rw[m.trees];refine Calls.callWith_builtin rfl (Calls.evalArgs_plain (Calls.spliced_cons (thn (p b r c t _ j A) λY C z=>eY z λy E G J L=>Calls.spliced_cons (thn (q b C c E _ G L) λfv s3 ⟨z,M,N,O,ov,g,T⟩=>Calls.spliced_nil ?_))));exact ztS l N g J O λw' s4 U i=>⟨_,M,U,i,T⟩
end
end L2
namespace HT
open PySem PyProof.Rows
abbrev lexLt:List Int->List Int->Bool
 | [],[]=>Δ| [],_::_=>Γ|_::_,[]=>Δ|x::a,y::b=>if x=y then lexLt a b else decide (x<y)
def zjC(x y)(xs ys):lexLt (x::xs) (y::ys)=if x=y then lexLt xs ys else decide (x<y):=rfl
def zfK:lexLt [] []=Δ:=rfl
def zeF(y)(ys):lexLt [] (y::ys)=Γ:=rfl
def zeG(x)(xs):lexLt (x::xs) []=Δ:=rfl
def zn0(A)(s)(a)(t)(c)(u):∃e,SeqAt.EqAt A s (.int a t) (.int c u) e/\(e=Γ↔a=c):=⟨(a==c),SeqAt.EqAt.int_int a t c u,by simp⟩
def zm5(A)(s)(a)(t)(c)(u)(prog)(w)(E)(Q)(h:Q (.bool (decide (a<c))) s):
  wpAny (model prog w) A (richCompare .Lt (.int a t) (.int c u)) Q E s:=
 (PyProof.Rows.lt_int h:wpAny (model prog w) A (compareOp .Lt (.int a t) (.int c u)) Q E s)
section
open PySem.SeqAt
open PySem.AutoSeq1 (wpAny_loadPart')
open PySem.MeetsSeq PySem.MeetsSeq2 PySem.MeetsSeq3
def zfg(l b)(items f)(n n2)(dd N)(sl O)(ns H)(Y:IntsAre items.toList ns)(hj:IntsAre f.toList H):
  Meets (Builtin.«tuple.__lt__» ⟨[.ref l,.ref b],[]⟩)
   (λ_ R s=>s.heap.get? l=Φ {cls:=.type "tuple",dict:=dd,data:=.seq items n,slots:=sl}/\s.heap.get? b=Φ {cls:=.type "tuple",dict:=N,data:=.seq f n2,slots:=O}/\
    R (.ok (.ret (.bool (lexLt ns H)))) s):=
 .of_wp λprog w A R s h=>by
  let⟨I,g,d,J,os⟩:=s;let⟨hl,hb,h⟩:=h;have f2:=AutoSeq1.sub_tuple_tuple;have z1:items.size=ns.length:=by rw[<-Y.length];simp
  have z2:f.size=H.length:=by rw[<-hj.length];simp
  wp_walk using wpAny_loadPart' hl,wpAny_loadPart' hb,wpAny_forIn_list _ (λp b Q=>b.1=Ψ/\Q=⟨I,g,d,J,os⟩/\∃(L M:List Ξ) (j k:List Int),p=L.zip M/\
   IntsAre L j/\IntsAre M k/\j.length+f.size=k.length+items.size/\R (.ok (.ret (.bool (lexLt j k)))) ⟨I,g,d,J,os⟩) _
  case turn=>
   rintro⟨y,x⟩ p b Q ⟨z,rfl,L,M,j,k,m,B,o,i,r⟩;cases B with
   |nil=>rw[List.zip_nil_left]at m;cases m
   |cons a t E=>
    cases o with
    |nil=>rw[List.zip_nil_right]at m;cases m
    |cons c u G=>
     rw[List.zip_cons_cons]at m;injection m with T C;injection T with hy hx;subst hy hx;rw[zjC]at r;simp![Χ]at i;let⟨e,he,v⟩:=zn0 A.in1 ⟨I,g,d,J,os⟩ a t c u;refine Θ (he prog w _ _ ?_);cases e with
     |true=>
      rw[if_pos (v.mp rfl)]at r
      wp_walk
      exact⟨rfl,rfl,_,_,_,_,C,E,G,by lia,r⟩
     |false=>
      rw[if_neg (λq=>absurd (v.mpr q) Ο)]at r;have U:=zm5 A.in1 ⟨I,g,d,J,os⟩ a t c u prog w
      wp_walk using U
      exact⟨_,rfl,by simpa using r⟩
  case fin=>
   rintro⟨b1,b2⟩ Q ⟨z,rfl,L,M,j,k,m,B,o,i,r⟩;simp only at z;subst z;have hv:lexLt j k=decide (items.size<f.size):=by
    cases B with
    |nil=>cases o with| nil=>simp![Ϧ]at i;rw[zfK];exact(decide_eq_false (by lia)).symm| cons c u hw=>simp![Ϧ,Χ]at i;rw[zeF];exact(decide_eq_true (by lia)).symm
    |cons a t hv=>cases o with| nil=>simp![Ϧ,Χ]at i;rw[zeG];exact(decide_eq_false (by lia)).symm| cons c u hw=>rw[List.zip_cons_cons]at m;cases m
   rw[hv]at r
   wp_walk
   exact⟨_,rfl,by simpa[Builtin.Tuple.tupleCompareSizes]using r⟩
  case h=>exact⟨rfl,rfl,items.toList,f.toList,ns,H,rfl,Y,hj,by lia,h⟩
end
section
variable{prog:ϊ}{w:ό}{A:ϐ}{E:Ξ->Β->Prop}{s:Β}
def lt_tupInts(q:IsTup s.heap l items)(r:IsTup s.heap b a)(t:IntsAre items.toList ns)(u:IntsAre a.toList f)(v:A.units<cLine)(h:Q (.bool (lexLt ns f)) s):wpAny (model prog w) A (compareOp .Lt (.ref l) (.ref b)) Q E s:=by
 let⟨⟨y,z,j,B⟩,k,m,n,o⟩:=id q;let⟨⟨p,g,data2,i⟩,c,d,C,e⟩:=id r;simp only at m o d e;subst m o d e;exact richCompare_meets_room (op:=.Lt) ⟨_,k,rfl⟩ ⟨_,c,rfl⟩ PySem.F.slot_tuple_lt PySem.F.entry_tuple_lt (PySem.F.args_tuple_lt_2 _ _) (zfg l b items a n C z g B i ns f t u)
  ⟨k,c,show Ξ.bool (lexLt ns f)≠Ξ.notImplemented/\Q (.bool (lexLt ns f)) s from⟨(λx=>by cases x),h⟩⟩ v
def cat_tup(u:IsTup s.heap t vs.toArray)(v:IsTup s.heap b a.toArray)(k:vs≠[])(x:a=[]->Q (.ref t) s)(y:a≠[]->Q (.ref s.heap.objs.size) {s with heap:=s.heap.push {cls:=.type "tuple",data:=.seq (vs++a).toArray}})(hsz:vs.length+a.length<=sizeLine):wpAny (model prog w) A (binaryOp .Add (.ref t) (.ref b)) Q E s:=by
 let⟨⟨cls,l,data,m⟩,i,o,n,p⟩:=id u;let⟨⟨q,d,data2,f⟩,c,g,r,h⟩:=id v;simp only at o p g h;subst o p g h;have e:vs.toArray++a.toArray=(vs++a).toArray:=by simp
 by_cases j:a=[]
 exact concat_meets ⟨_,i,rfl⟩ ⟨_,c,rfl⟩ noFill_tuple_add seq_tuple_add PySem.F.slot_tuple_add PySem.F.entry_tuple_add (PySem.F.args_tuple_add_2 _ _)
  (tuple_addW1 t b vs.toArray a.toArray n r l d m f (by simpa using k) (by simp[j])) ⟨i,c,x j⟩
 refine concat_meets ⟨_,i,rfl⟩ ⟨_,c,rfl⟩ noFill_tuple_add seq_tuple_add PySem.F.slot_tuple_add PySem.F.entry_tuple_add (PySem.F.args_tuple_add_2 _ _)
  (tuple_addW2 t b vs.toArray a.toArray n r l d m f (by simpa using k) (by simpa using j) (by rw[size_toArray,size_toArray];exact hsz)) ⟨i,c,?_⟩
 rw[e];exact y j
abbrev sIx(n d:Nat):Option Int->Nat
 |none=>d|some v=>if v<0 then(v+(n:Int)).toNat else min v.toNat n
def sIx_none(n d):sIx n d Ψ=d:=rfl
def sIx_nat(n d k:Nat):sIx n d (Φ (k:Int))=min k n:=by show(if(k:Int)<0 then((k:Int)+(n:Int)).toNat else min (k:Int).toNat n)=min k n;rw[if_neg (by lia),Int.toNat_natCast]
def zsC(n d)(hd:d<=n)(o):sIx n d o<=n:=by cases o with|none=>exact hd| some v=>show(if v<0 then(v+(n:Int)).toNat else min v.toNat n)<=n;by_cases a:v<0;rw[if_pos a];lia;rw[if_neg a];exact Nat.min_le_right _ _
def zmf(v)(n d:Nat):(if v<0 then max (v+(n:Int)) 0 else min v (n:Int))=((sIx n d (Φ v):Nat):Int):=by show(if v<0 then max (v+(n:Int)) 0 else min v (n:Int))=(((if v<0 then(v+(n:Int)).toNat else min v.toNat n):Nat):Int);by_cases a:v<0;simp![if_pos a];lia;simp![if_neg a];lia
def zjU(lo a)(n:Nat):Builtin.Slice.sliceAdjust lo a 1 (n:Int)=(((sIx n 0 lo:Nat):Int),((sIx n n a:Nat):Int)):=by
 have b:¬((1:Int)<0):=by lia
 unfold Builtin.Slice.sliceAdjust;simp![b,if_false];refine Prod.ext ?_ ?_;cases lo with|none=>rfl|some v=>exact zmf v n 0
 cases a with|none=>rfl|some v=>exact zmf v n n
def zjw(i j:Nat):Builtin.Slice.slicePlaces (i:Int) (j:Int) 1=j-i:=by
 unfold Builtin.Slice.slicePlaces;have a:(1:Int)>0:=by lia
 simp![a,if_true,Int.ediv_one];split<;>lia
def zeO(p:IsPart v o)(h:Q o s):wpAny (model prog w) A (Builtin.Slice.slicePartIndex v) Q E s:=by cases p with|none=>exact slicePart_none h|int i t=>exact slicePart_int h
def zdw{lo a}{Q:Int×Int×Nat->Β->Prop}(hs:s.heap.IsSliceOf f d e .none)(g:IsPart d lo)(i:IsPart e a)(h:Q (((sIx n 0 lo:Nat):Int),1,sIx n n a-sIx n 0 lo) s):wpAny (model prog w) A (Builtin.Slice.sliceApplied (.ref f) (pure (n:Int))) Q E s:=by
 let⟨os,b,j,c⟩:=id hs;unfold Builtin.Slice.sliceApplied Builtin.Slice.sliceFields;refine Θ (Θ (wpAny_field b c (x:=d) rfl (Θ (wpAny_field b c (x:=e) rfl (Θ (wpAny_field b c (x:=.none) rfl (Ω ?_)))))));refine Θ (slicePart_none ?_);show wpAny _ _ (if((1:Int)==0)=Γ then _ else _) _ _ s;rw[if_neg (by decide)];refine Θ (zeO g (Θ (zeO i (Θ (Ω ?_)))));show wpAny _ _ (match Builtin.Slice.sliceAdjust lo a 1 (n:Int) with|(lo,a)=>pure (lo,(1:Int),Builtin.Slice.slicePlaces lo a 1)) _ _ s;rw[zjU lo a n];show wpAny _ _ (pure (((sIx n 0 lo:Nat):Int),(1:Int),Builtin.Slice.slicePlaces ((sIx n 0 lo:Nat):Int) ((sIx n n a:Nat):Int) 1)) _ _ s;rw[zjw];exact Ω h
def znh(xs:Array Ξ)(i k:Nat):((List.range k).filterMap λ(m:Nat)=>xs[((i:Int)+(m:Int)*1).toNat]?).toArray=((xs.toList.drop i).take k).toArray:=by
 have e:(λ(m:Nat)=>xs[((i:Int)+(m:Int)*1).toNat]?)=λm=>xs[i+m]?:=by
  funext m;have:((i:Int)+(m:Int)*1).toNat=i+m:=by lia
  rw[this]
 rw[e];have:=pick_run xs i k;rw[List.filterMap_map]at this;have a:((λx=>xs[x]?)∘λx=>i+x)=λm=>xs[i+m]?:=rfl;rw[a]at this;rw[this]
def getItem_tuple_cut{lo b}(c:IsTup s.heap t items)(hs:s.heap.IsSliceOf i j k .none)(l:IsPart j lo)(n:IsPart k b)(o:¬(sIx items.size 0 lo=0/\sIx items.size items.size b=items.size))(h:Q (.ref s.heap.objs.size) {s with heap:=s.heap.push {cls:=.type "tuple",data:=.seq ((items.toList.drop (sIx items.size 0 lo)).take (sIx items.size items.size b-sIx items.size 0 lo)).toArray}})(hsz:items.size<=sizeLine):wpAny (model prog w) A (getItem (.ref t) (.ref i)) Q E s:=by
 have a:sizeOk (.seq ((items.toList.drop (sIx items.size 0 lo)).take (sIx items.size items.size b-sIx items.size 0 lo)).toArray):=by show((items.toList.drop (sIx items.size 0 lo)).take (sIx items.size items.size b-sIx items.size 0 lo)).toArray.size<=sizeLine;rw[size_toArray,length_take,List.length_drop,length_toList];omega
 have r:sIx items.size items.size b<=items.size:=zsC _ _ (le_refl _) b;let⟨os,d,e,p⟩:=id hs;have f:s.TypeIs (.ref i) "slice":=⟨os,d,e⟩;unfold getItem
 try with_reducible refine ϝ ?_
 first|refine Θ (Ω ?_)|skip
 refine Θ (wpAny_sequenceKey c.typeIs (by decide) ?_);refine Θ (wpAny_callSpecial?_slot (name:=Str.ofString "__getitem__") c.typeIs PyProof.Rows.slot_tuple_getitem
  (ϔ PyProof.Rows.slot_tuple_getitem c.typeIs entry_tuple_getitem ?_ (args_tuple_getitem _ _)))
 show wpAny _ _ (Builtin.Tuple.tupleItemsOf (.ref t)>>=_) _ _ s;refine Θ (tupleItemsOf_ c ?_);refine Θ (wpAny_typeOf f ?_);rw[if_pos (by decide)];refine Θ (zdw hs l n ?_);have g:¬((((sIx items.size 0 lo:Nat):Int)==0&&(1:Int)==1&&(sIx items.size items.size b-sIx items.size 0 lo)==items.size)=Γ):=by intro q;replace q:=qL qa1 q;have u:((sIx items.size 0 lo:Nat):Int)=0:=eq_of_beq q.1.1;have v:sIx items.size items.size b-sIx items.size 0 lo=items.size:=eq_of_beq q.2;exact o ⟨by omega,by omega⟩
 show wpAny _ _ (if(((sIx items.size 0 lo:Nat):Int)==0&&(1:Int)==1&&(sIx items.size items.size b-sIx items.size 0 lo)==items.size)=Γ then _ else _) _ _ s;rw[if_neg g,znh]
 first
  |exact Θ (m:=Builtin.Tuple.tupleExact _) (ϖ (Ω ⟨_,rfl,Ω h⟩) a)
  |exact Θ (m:=Builtin.Tuple.tupleExact _) (ϖ (Θ (Ω (Ω ⟨_,rfl,Ω h⟩))) a)
  |exact Θ (Θ (m:=Builtin.Tuple.tupleExact _) (ϖ (Ω (Ω ⟨_,rfl,Ω h⟩)) a))
  |exact Θ (Θ (m:=Builtin.Tuple.tupleExact _) (ϖ (Ω ⟨_,rfl,Ω h⟩) a))
end
end HT
namespace L2
open PySem PySem.Spec PyProof.Rows
@[reducible]def TO:=St->Hp->(Option Int->Hp->Prop)->Prop
abbrev PO(X:Cx)(e:Option Expr)(t:TO):Prop:=
 ∀(a:List (Addr×Obj))(s:Β)(b:St)(H:Hp)(Q:Option Int->Hp->Prop),Inv X a b H s->t b H Q->
  wpAny (model X.prog X.w) X.A (evalPart e X.env) (λu d=>∃o c,Inv X a b c d/\IsPart u o/\Q o c) X.xe s
abbrev zpq:TO:=λ_ H Q=>Q Ψ H
abbrev zr1(t:TE):TO:=λa H Q=>t a H λx b=>∃i,x=.int i/\Q (Φ i) b
def zdf:∀{us:List Ξ},Vals (ns.map V.int) us->IntsAre us ns:=by induction ns with|nil=>intro us r;rw[map_nil]at r;cases r;exact .nil| cons n ns a=>intro us r;rw[Ν]at r;cases r with| cons b c=>let⟨t,e⟩:=b;subst e;exact .cons n t (a c)
section
variable{X:Cx}{e:Expr}{te:TE}{lo hi:Option Expr}{tl th:TO}{pos p2:Pos}
def zhD:PO X Ψ zpq:=by intro a s b H Q I h;rw[evalPart_none];exact Ω ⟨Ψ,H,I,.none,h⟩
def zfz(h:PE X e te):PO X (Φ e) (zr1 te):=by intro a s b H Q I c;rw[evalPart_some];refine thn (h a s b H _ I c) λu k z=>?_;let⟨x,d,f,g,j⟩:=z;let⟨i,rfl,q⟩:=j;let⟨t,rfl⟩:=g;exact⟨Φ i,d,f,.int i t,q⟩
abbrev SlR(X:Cx)(r:V->Option Int->Option Int->Hp->VK->Prop):Prop:=
 ∀(a:List (Addr×Obj))(s:Β)(b:St)(H:Hp)(x:V)(v c d:Ξ)(lo hi:Option Int)(f:Addr)(Q:VK),Inv X a b H s->RelV x v->s.heap.IsSliceOf f c d .none->IsPart c lo->IsPart d hi->r x lo hi H Q->
  ∃T id,typeLookup (.type T) "__getitem__"=pure (Φ (.builtin id))/\s.TypeIs v T/\wpAny (model X.prog X.w) X.A (getItem v (.ref f)) (EP X a b Q) X.xe s
abbrev tSl(r:V->Option Int->Option Int->Hp->VK->Prop)(te:TE)(tl th:TO):TE:=λa H Q=>te a H λx b=>tl a b λl c=>th a c λu d=>r x l u d Q
def ziy(j:SlR X r)(k:PE X e te)(m:PO X lo tl)(n:PO X hi th):PE X (.Subscript e (.Slice lo hi Ψ p2) pos) (tSl r te tl th):=by intro a s d H Q I h;refine Subscript_ (thn (k a s d H _ I h) λv o z=>?_);let⟨x,p,t,w,y⟩:=z;refine wpAny_Slice (thn (m a o d p _ t y) λf A z=>eY z λl B C E G=>thn (n a A d B _ C G) λg c z=>?_);let⟨u,i,J,L,M⟩:=z;rw[evalPart_none];refine Ω ?_;have N:Inv X a d i {c with heap:=c.heap.push {cls:=.type "slice",data:=.fields #[f,g,.none]}}:=J.kept (t':=c.toks) λb ob q=>Λ _ q;let⟨T,id,O,U,Y⟩:=j a {c with heap:=c.heap.push {cls:=.type "slice",data:=.fields #[f,g,.none]}} d i x v f g l u c.heap.objs.size Q N w (Heap.IsSliceOf.new ..) E L M;show wpAny (model X.prog X.w) X.A (subscriptTail e (.Slice lo hi Ψ p2) v (.ref c.heap.objs.size)) (EP X a d Q) X.xe {c with heap:=c.heap.push {cls:=.type "slice",data:=.fields #[f,g,.none]}};exact tail_any (ops:=[.ref c.heap.objs.size,v]) U O Y (by with_unfolding_all rfl)
abbrev cutV(xs:List V)(lo hi:Option Int):List V:=(xs.drop (HT.sIx xs.length 0 lo)).take (HT.sIx xs.length xs.length hi-HT.sIx xs.length 0 lo)
def zh1(xs)(lo hi):(cutV xs lo hi).length<=xs.length:=by unfold cutV;rw[length_take,List.length_drop];lia
abbrev rSlT(K:Frag):V->Option Int->Option Int->Hp->VK->Prop:=λx lo hi H Q=>∃a b,x=.ref a/\SqT K H a b/\
 ¬(HT.sIx b.length 0 lo=0/\HT.sIx b.length b.length hi=b.length)/\∀p,H p=Ψ->Q (.ref p) (upd H p (.tup (cutV b lo hi)))
def zor:SlR X (rSlT X.K):=by
 intro g s u H x v w y lo hi z Q I k l m n h;let⟨a,d,rfl,p,t,q⟩:=h;cases k;let⟨f,r,i,j⟩:=I.tuple p;have c:f.toArray.size=d.length:=by rw[size_toArray];exact r.length.symm
 refine⟨"tuple",_,PyProof.Rows.slot_tuple_getitem.lookup,i.typeIs,?_⟩;refine HT.getItem_tuple_cut i l m n (by rw[c];exact t) ?_ (by rw[c];exact j);rw[c];refine⟨.ref s.heap.objs.size,_,I.laid (t':=s.toks) (o:=.tup (cutV d lo hi)) (λb A q=>Λ _ q) (le_refl _) ?_,rfl,q _ (I.hok.fresh (le_refl _))⟩;exact⟨le_trans (zh1 d lo hi) j,_,(r.drop (HT.sIx d.length 0 lo)).take (HT.sIx d.length d.length hi-HT.sIx d.length 0 lo),IsTup.new _ _⟩
abbrev zux(K:Frag):R2:=λx y H Q=>∃a b d c,x=.ref a/\y=.ref b/\SqT K H a d/\SqT K H b c/\d≠[]/\d.length+c.length<=sizeLine/\
 (c=[]->Q (.ref a) H)/\(c≠[]->∀p,H p=Ψ->Q (.ref p) (upd H p (.tup (d++c))))
def Vals.nil_iff(r:Vals xs us):us=[]↔xs=[]:=by cases r with|nil=>simp|cons _ _=>simp
def zqE:OpR X (binaryOp .Add) (zux X.K):=by intro f s E H x y v u Q I j k h;let⟨a,b,l,m,rfl,rfl,n,p,r,g,t,A⟩:=h;cases j;cases k;let⟨B,d,C,_⟩:=I.tuple n;let⟨i,c,p2,_⟩:=I.tuple p;refine HT.cat_tup C p2 (λz=>r (d.nil_iff.mp z)) (λz=>⟨.ref a,H,I,rfl,t (c.nil_iff.mp z)⟩) (λz=>?_) (by rw[<-d.length,<-c.length];exact g);refine⟨.ref s.heap.objs.size,_,I.laid (t':=s.toks) (o:=.tup (l++m)) (λb G q=>Λ _ q) (le_refl _) ?_,rfl,A (λw=>z (c.nil_iff.mpr w)) _ (I.hok.fresh (le_refl _))⟩;exact⟨by rw[length_append];exact g,_,d.append c,IsTup.new _ _⟩
end
abbrev ixN(n:Nat)(i:Int):Option Nat:=if 0<=i then(if i<n then Φ i.toNat else Ψ) else if -(n:Int)<=i then Φ (i+n).toNat else Ψ
abbrev atI{a:Type}(xs:List a)(i:Int):Option a:=(ixN xs.length i).bind λj=>xs[j]?
def zqZ(h:ixN n i=Φ j):seqIndex? i n=Φ j/\j<n/\-(n:Int)<=i/\i<n:=by unfold ixN at h;by_cases b:0<=i;rw[if_pos b]at h;by_cases a:i<n;rw[if_pos a]at h;have e:i.toNat=j:=Option.some.inj h;exact⟨by rw[seqIndex_of b a,e],by lia,by lia,a⟩;rw[if_neg a]at h;exact nS h;rw[if_neg b]at h;by_cases a:-(n:Int)<=i;rw[if_pos a]at h;have e:(i+n).toNat=j:=Option.some.inj h;exact⟨by rw[seqIndex_neg (by lia) a,e],by lia,a,by lia⟩;rw[if_neg a]at h;exact nS h
def zh8(h:atI xs i=Φ v):∃j,seqIndex? i xs.length=Φ j/\xs[j]?=Φ v/\j<xs.length/\-(xs.length:Int)<=i/\i<xs.length:=by
 unfold atI at h;cases e:ixN xs.length i with
 |none=>rw[e]at h;exact nS h
 |some j=>rw[e]at h;let⟨a,b,c,d⟩:=zqZ e;exact⟨j,a,h,b,c,d⟩
abbrev zmw(b:Expr):Prop:=∀o i,subscripted b Δ o i=operate [o,i] (getItem o i)
abbrev IxR(X:Cx)(r:R2):Prop:=
 ∀(c a:Expr)(b:List (Addr×Obj))(s:Β)(d:St)(H:Hp)(x y:V)(v u:Ξ)(Q:VK),Inv X b d H s->RelV x v->RelV y u->r x y H Q->
  subscripted a Δ v u=operate [v,u] (getItem v u)->wpAny (model X.prog X.w) X.A (subscriptTail c a v u) (EP X b d Q) X.xe s
abbrev MtR(X:Cx)(id:String)(r:V->List V->Hp->VK->Prop):Prop:=
 ∀(a:List (Addr×Obj))(s:Β)(b:St)(H:Hp)(x:V)(c:List V)(v:Ξ)(d:List Ξ)(Q:VK),Inv X a b H s->RelV x v->Vals c d->r x c H Q->
  wpAny (model X.prog X.w) X.A (call (.builtin id) (v::d)) (EP X a b Q) X.xe s
section
variable{X:Cx}{a b:Expr}{ta tb:TE}{pos:Pos}
def IxR.or(h:IxR X r)(h':IxR X k):IxR X (λx y H Q=>r x y H Q\/k x y H Q):=by intro c d e s f H x y v u Q I g i q j;rcases q with q|q;exact h c d e s f H x y v u Q I g i q j;exact h' c d e s f H x y v u Q I g i q j
def zuC(d:IxR X r)(e:PE X a ta)(f:PE X b tb)(hs:zmw b):PE X (.Subscript a b pos) (tOp r ta tb):=by intro c s g H Q I h;exact Subscript_ (binT e f I h λv u i x y j k l m q=>d a b c i g j x y v u Q k l m q (hs _ _))
abbrev rIxL(K:Frag):R2:=λx y H Q=>∃p c i v,x=.ref p/\y=.int i/\SqL K H p c/\atI c i=Φ v/\Q v H
abbrev rIxT(K:Frag):R2:=λx y H Q=>∃p c i v,x=.ref p/\y=.int i/\SqT K H p c/\atI c i=Φ v/\Q v H
abbrev rIxS:R2:=λx y H Q=>∃z i c,x=.str z/\y=.int i/\z.length<=sizeLine/\atI z.cps.toList i=Φ c/\Q (.str ⟨#[c]⟩) H
def ix_list:IxR X (rIxL X.K):=by
 intro e f c s n H x y v u Q I C E h o;let⟨p,U,i,z,rfl,rfl,G,J,q⟩:=h;cases C;let⟨t,rfl⟩:=E;let⟨g,r,k,Y⟩:=I.list G;let⟨j,d,L,h3,M,N⟩:=zh8 J;let⟨w,A,l⟩:=r.get L;have O:=r.length;have hn:=zgE;have fin:EP X c n Q w s:=⟨z,H,I,l,q⟩;by_cases B:0<=i;have m:i.toNat=j:=by rw[seqIndex_of B N]at d;exact Option.some.inj d
 exact item_listR k.isList B (by lia) (by rw[m];simpa using A) fin o;have m:(i+(g.toArray.size:Int)).toNat=j:=by rw[seqIndex_neg (by lia) M]at d;rw[size_toArray,<-O];exact Option.some.inj d
 exact subscriptTail_builtinR (x:=w) k.isList.typeIs slot_list_getitem.lookup
  (wpAny_getItem_list_neg (Q:=λr T=>r=w/\EP X c n Q r T) k.isList (by lia) (by rw[size_toArray]<;>lia) (by lia) (by rw[m];simpa using A) ⟨rfl,fin⟩) o
def ix_tup:IxR X (rIxT X.K):=by
 intro d e c s g H x y v u Q I l m h n;let⟨p,M,i,z,rfl,rfl,o,A,q⟩:=h;cases l;let⟨t,rfl⟩:=m;let⟨B,r,k,N⟩:=I.tuple o;let⟨j,C,E,O,T,U⟩:=zh8 A;let⟨w,G,f⟩:=r.get E;have J:=r.length;have Y:=zgE;have fin:EP X c g Q w s:=⟨z,H,I,f,q⟩;exact subscriptTail_builtinR (x:=w) k.typeIs slot_tuple_getitem.lookup
  (getItem_tuple (j:=j) (Q:=λr L=>r=w/\EP X c g Q r L) k (by lia) (by lia) (by rw[size_toArray,<-J];exact C) (by simpa using G) ⟨rfl,fin⟩) n
def ztF:IxR X rIxS:=by
 intro d e f s C H x y v u Q I k l h m;let⟨z,i,c,rfl,rfl,E,n,q⟩:=h;let⟨t,rfl⟩:=k;let⟨G,rfl⟩:=l;let⟨j,g,o,J,p,r⟩:=zh8 n;have w:z.cps.toList.length=z.length:=by simp[Str.length]
 rw[w]at g p r;have L:=zgE;exact tail_any (typeIs_str s z t) slot_str_getitem.lookup (getItem_str (c:=c) (by
  have A:decide (i < -(2^63:Int))=Δ:=decide_eq_false (by lia);have B:decide (i≥2^63)=Δ:=decide_eq_false (by lia);rw[A,B,Bool.or_false]) (by rw[g];simpa using o) ⟨.str ⟨#[c]⟩,H,I.tok _,⟨_,rfl⟩,q⟩) m
abbrev rIx(K:Frag):R2:=λx y H Q=>rIxL K x y H Q\/rIxT K x y H Q\/rIxS x y H Q
def ztG:IxR X (rIx X.K):=ix_list.or (ix_tup.or ztF)
def Inv.lst{c:List (Addr×Obj)}{d:St}{H:Hp}{s:Β}{p:Addr}{xs:List V}(I:Inv X c d H s)(h:H p=Φ (.lst xs)) :
  ∃(its:List Ξ) (n:Nat),Vals xs its/\s.heap.get? p=Φ {cls:=.type "list",data:=.seq its.toArray n}/\xs.length<=sizeLine:=by
 let⟨z,its,n,r,e⟩:=I.hok p _ h;exact⟨its,n,r,e,z⟩
def zcd:zbn X (.builtin "len") (λxs H Q=>∃p ys,xs=[.ref p]/\(SqL X.K H p ys\/SqT X.K H p ys)/\Q (.int ys.length) H):=by intro i s l H xs m Q I r h;let⟨p,ys,rfl,d,q⟩:=h;let⟨u,rfl,j⟩:=zmz r;cases j;have n:=zgE;rcases d with d|d;let⟨e,f,g,k⟩:=I.list d;have c:=f.length;exact Calls.call_len_list g.isList (by simp![size_toArray]<;>lia) ⟨.int ys.length,H,I.tok _,⟨s.toks+1,by rw[size_toArray,c]⟩,q⟩;let⟨e,f,g,k⟩:=I.tuple d;have c:=f.length;exact len_tuple g (by simp![size_toArray]<;>lia) ⟨.int ys.length,H,I.tok _,⟨s.toks+1,by rw[size_toArray,c]⟩,q⟩
def zg5:zbn X (.type "list") (λxs H Q=>∃p ys,xs=[.ref p]/\(SqL X.K H p ys\/SqT X.K H p ys)/\∀l,H l=Ψ->Q (.ref l) (upd H l (.lst ys))):=by
 intro i s A H xs C Q I r h;let⟨p,ys,rfl,j,q⟩:=h;let⟨u,rfl,B⟩:=zmz r;cases B;have fin:∀(c:List Ξ),Vals ys c->ys.length<=sizeLine->∀(d:Heap)(f:Nat),(∀b z,s.heap.get? b=Φ z->d.get? b=Φ z)->
   d.get? s.heap.objs.size=Φ {cls:=.type "list",dict:=Ψ,data:=.seq c.toArray f,slots:=#[]}->EP X i A Q (.ref s.heap.objs.size) {s with heap:=d}:=λc g k d f m e=>
  ⟨.ref s.heap.objs.size,_,I.laid (t':=s.toks) m (le_refl _) (show ObjOk X.prog X.w _ d _ (.lst ys) from⟨k,c,f,g,e⟩),rfl,q _ (I.hok.fresh (le_refl _))⟩
 rcases j with j|j;let⟨c,g,v,k⟩:=I.list j;have t:=g.length;let⟨o,w,x,n,y⟩:=v.isList;exact call_list_seq p (.inl rfl) w x y (λd f m e=>fin c g k d f m e) (by simp![size_toArray]<;>lia);let⟨c,g,v,k⟩:=I.tuple j;have t:=g.length;let⟨o,w,x,n,y⟩:=v;exact call_list_seq p (.inr rfl) w x y (λd f m e=>fin c g k d f m e) (by simp![size_toArray]<;>lia)
def zf2:zbn X (.type "tuple") (λxs H Q=>∃p ys,xs=[.ref p]/\((SqL X.K H p ys/\∀l,H l=Ψ->Q (.ref l) (upd H l (.tup ys)))\/(SqT X.K H p ys/\Q (.ref p) H))):=by intro c s k H xs y Q I r h;let⟨p,ys,rfl,h⟩:=h;let⟨u,rfl,v⟩:=zmz r;cases v;rcases h with⟨g,q⟩|⟨g,q⟩;let⟨d,i,j,m⟩:=I.list g;have n:=i.length;refine call_tuple_list j.isList (λf w=>?_) (by simp![size_toArray]<;>lia);have t:Inv X c k H {s with heap:=f}:=I.kept (t':=s.toks) w;have x:Inv X c k (upd H f.objs.size (.tup ys)) {s with heap:=f.push {cls:=.type "tuple",data:=.seq d.toArray}}:=t.laid (t':=s.toks) (λb o e=>Λ _ e) (le_refl _) (show ObjOk X.prog X.w _ _ _ (.tup ys) from⟨m,d,i,IsTup.new _ _⟩);exact⟨.ref f.objs.size,_,x,rfl,q _ (t.hok.fresh (le_refl _))⟩;let⟨d,i,j,m⟩:=I.tuple g;exact call_tuple_same j ⟨.ref p,H,I,rfl,q⟩
abbrev tyV(K:Frag)(T:String)(x:V)(H:Hp):Prop:=match x with
 |.str _=>T="str"|.int _=>T="int"
 |.ref p=>(T="list"/\∃d,SqL K H p d)\/(T="tuple"/\∃o,K.lookup p=Φ o/\o.cls=.type "tuple"/\o.dict=Ψ)\/
  (T="dict"/\((∃c,H p=Φ (.dK c))\/∃c,H p=Φ (.dT c)))\/(T="set"/\∃S n,H p=Φ (.set S n))
 |_=>False
def zrR(I:Inv X l A H s)(r:RelV x v)(g:tyV X.K T x H):
  s.TypeIs v T/\∀a,v=.ref a->∃m,s.heap.get? a=Φ m/\m.dict=Ψ:=by
 cases x with
 |str z=>let⟨t,rfl⟩:=r;cases(show T="str" from g);exact⟨typeIs_str s z t,λ_ e=>by cases e⟩| int i=>let⟨t,rfl⟩:=r;cases(show T="int" from g);exact⟨typeIs_int s i t,λ_ e=>by cases e⟩| ref p=>
  cases r;rcases g with⟨rfl,B,u⟩|⟨rfl,o,d,w,h⟩|⟨rfl,d⟩|⟨rfl,S,n,d⟩;let⟨y,_,q,_⟩:=I.list u;refine⟨q.isList.typeIs,λa e=>?_⟩;cases e;let⟨o,n,e,c,h,_⟩:=q;exact⟨o,e,h⟩;refine⟨⟨o,I.kIn p o d,w⟩,λa e=>?_⟩;cases e;exact⟨o,I.kIn _ o d,h⟩;have z:∃o,s.heap.get? p=Φ o/\o.ExactDict:=by rcases d with⟨j,d⟩|⟨j,d⟩;let⟨_,_,_,_,o,_,_,e,f,_⟩:=I.hok p _ d;exact⟨o,e,f⟩;let⟨_,_,_,_,o,_,_,e,f,_⟩:=I.hok p _ d;exact⟨o,e,f⟩
  let⟨o,e,f⟩:=z;refine⟨⟨o,e,f.1⟩,λa k=>?_⟩;cases k;exact⟨o,e,f.2.1⟩;let⟨o,_,_,_,e,f,_⟩:=I.hok p _ d;refine⟨⟨o,e,f.1⟩,λa k=>?_⟩;cases k;exact⟨o,e,f.2.1⟩
 |_=>exact False.elim g
abbrev tBM(K:Frag)(T:String)(r:V->List V->Hp->VK->Prop)(e:TE)(t:TA):TE:=λc H Q=>e c H λx d=>tyV K T x d/\t c d λf g=>r x f g Q
variable{o e:Expr}{es:List Expr}{to:TE}{t:TA}{name:Str}{apos cpos:Pos}{T id:String}{r:V->List V->Hp->VK->Prop}
def zqz(u:PlainAttrs T)(i:Slot T name id)(l:typeOf (.builtin id)=pure (.type "method_descriptor"))(w:MtR X id r)(y:PE X o to)(A:PA X (e::es) t)
  (f:attributeBase o name X.env (eval o X.env)=eval o X.env:=by rfl)
  (j:((backTo cpos (starEach (e::es) X.env)).all (λx=>!x.1)&&(backToKw cpos (keywordEach [] X.env)).all (λx=>x.1.isSome)
   && decide ((e::es).length+([]:List Keyword).length+(if([]:List Keyword).isEmpty then 0 else 1)<30))=Γ:=by rfl)
  (g:(apos.endLine==cpos.line)=Γ:=by rfl) (hs:starEach (e::es) X.env=(Δ,eval e X.env)::starEach es X.env:=by rfl) (d:(backTo cpos (starEach es X.env)).any (·.1)=Δ:=by rfl) :
  PE X (.Call (.Attribute o name apos) (e::es) [] cpos) (tBM X.K T r to t):=by
 intro c s m H Q I h;refine wpAny_Call_method_late f j g rfl (thn (y c s m H _ I h) λv B z=>?_);let⟨x,C,n,p,E,G⟩:=z;let⟨J,L⟩:=zrR n p E;refine⟨T,id,u,i,l,J,L,?_⟩;have q:=A cpos c B m C _ n G;rw[hs]at q⊢;refine Calls.callWith_builtin (by show(Δ||(backTo cpos (starEach es X.env)).any (·.1))=Δ;rw[d]<;>rfl) (Calls.evalArgs_plain ?_);exact thn q λM N k=>(by let⟨O,U,Y,r2,q2⟩:=k;exact w c N m U x O v M Q Y p r2 q2)
end
abbrev MtM(X:Cx)(id:String)(r:V->List V->Hp->VK->Prop):Prop:=
 ∀(a:List (Addr×Obj))(s:Β)(b:St)(H:Hp)(x:V)(c:List V)(v:Ξ)(d:List Ξ)(Q:VK),Inv X a b H s->RelV x v->Vals c d->r x c H Q->
  wpAny (model X.prog X.w) X.A (call (.builtin id) (v::d)) (EP X a b Q) X.xe s
def Vals.one{x:V}{us:List Ξ}(h:Vals [x] us):∃u,us=[u]/\RelV x u:=by cases h with|cons r t=>cases t;exact⟨_,rfl,r⟩
def Vals.eraseIdx:∀{xs:List V}{us:List Ξ}(i:Nat),Vals xs us->Vals (xs.eraseIdx i) (us.eraseIdx i)
 |_,_,_,.nil=>.nil|_,_,0,.cons _ t=>t|_,_,i+1,.cons r t=>.cons r (Vals.eraseIdx i t)
def zgI{a:Type}:∀(l:List a)(i:Nat),(l.eraseIdx i).length<=l.length
 | [],_=>le_refl _|_::_,0=>le_succ _|_::r,i+1=>Nat.succ_le_succ (zgI r i)
section
variable{X:Cx}{pins:List (Addr×Obj)}{σ:St}{H:Hp}{s:Β}{l b:Addr}{xs ys zs:List V}
def Inv.lset{its its':List Ξ}(I:Inv X pins σ H s)(a:H l=Φ (.lst xs))(e:s.heap.get? l=Φ {cls:=.type "list",data:=.seq its.toArray n})(c:f its.toArray=its'.toArray)(d:Vals ys its')(hz:ys.length<=sizeLine):
  Inv X pins σ (upd H l (.lst ys)) {s with heap:=s.heap.update l (Obj.mapSeq f),toks:=t'}:=by
 have q:=PySem.IsL.update e f;rw[c]at q;refine I.write (x:=l) (e:=l) (by rw[a];exact trivial) (.inl rfl) (λi u g h=>(Heap.get?_update_other s.heap (Obj.mapSeq f) (Ne.symm g)).trans h) ⟨_,q⟩ ?_;exact⟨hz,its',_,d,q⟩
def Inv.lnew(I:Inv X pins σ H s)(a:Vals ys its)(hz:ys.length<=sizeLine):
  Inv X pins σ (upd H s.heap.objs.size (.lst ys)) {s with heap:=s.heap.push {cls:=.type "list",data:=.seq its.toArray},toks:=t'}:=
 I.laid (λ_ _ q=>Λ _ q) (le_refl _) ⟨hz,its,0,a,Ζ _ rfl⟩
def Inv.fresh(I:Inv X pins σ H s):H s.heap.objs.size=Ψ:=I.hok.fresh (le_refl _)
def Inv.lstM(I:Inv X pins σ H s)(a:H l=Φ (.lst xs)):xs.length<=sizeLine/\∃(its:List Ξ) (n:Nat),Vals xs its/\xs.length=its.length/\s.heap.get? l=Φ {cls:=.type "list",data:=.seq its.toArray n}:=by let⟨z,its,n,r,e⟩:=I.hok l _ a;exact⟨z,its,n,r,r.length,e⟩
def zny(h:n<=sizeLine):Builtin.List.listTooLong n=Δ:=by unfold Builtin.List.listTooLong;exact decide_eq_false (by lia)
end
section
variable{X:Cx}
abbrev zqf:V->List V->Hp->VK->Prop:=λx b H Q=>∃l a y,x=.ref l/\b=[y]/\H l=Φ (.lst a)/\a.length<sizeLine/\Q .non (upd H l (.lst (a++[y])))
def zgA:MtM X "list.append" zqf:=by intro b s i H x j v k Q I d f h;let⟨l,m,y,rfl,rfl,c,o,q⟩:=h;cases d;let⟨u,rfl,g⟩:=f.one;let⟨z,a,n,r,p,e⟩:=I.lstM c;refine call_meets F.slot_list_append ⟨_,e,rfl⟩ F.entry_list_append (F.args_list_append_2 _ _) (PySem.list_append l a.toArray n u (by rw[size_toArray];lia)) ⟨e,?_⟩;refine⟨.non,_,I.lset (its':=a++[u]) c e (by simp) (r.append (.cons g .nil)) ?_,rfl,q⟩;rw[length_append,List.length_singleton];lia
abbrev zqe:V->List V->Hp->VK->Prop:=λx d H Q=>∃l b a c,x=.ref l/\d=[.ref b]/\H l=Φ (.lst a)/\H b=Φ (.lst c)/\a.length+c.length<=sizeLine/\Q .non (upd H l (.lst (a++c)))
def zgz:MtM X "list.extend" zqe:=by
 intro g s y H x A v B Q I j k h;let⟨l,b,C,E,rfl,rfl,i,hB,G,q⟩:=h;cases j;let⟨u,rfl,m⟩:=k.one;cases m;let⟨z,c,n,r,J,e⟩:=I.lstM i;let⟨L,a,o,p,t,w⟩:=I.lstM hB;have f:c.toArray.size+a.toArray.size<=sizeLine:=by rw[size_toArray,size_toArray];lia
 have d:¬(!c.toArray.isEmpty&&Builtin.List.listTooLong (c.toArray.size+a.toArray.size))=Γ:=by rw[zny f,Bool.and_false];exact Ο
 refine call_meets F.slot_list_extend ⟨_,e,rfl⟩ F.entry_list_extend (F.args_list_extend_2 _ _)
  (AutoSeq1.list_extend_list_list_0 l c.toArray n b a.toArray o d (by rw[size_toArray];lia) (by lia)) ⟨e,w,?_⟩
 refine⟨.non,_,I.lset (its':=c++a) i e (by simp) (r.append p) ?_,rfl,q⟩;rw[length_append];lia
abbrev zsL:V->List V->Hp->VK->Prop:=λx b H Q=>∃l a i k y,x=.ref l/\b=[.int i]/\H l=Φ (.lst a)/\-(2^63)<=i/\i<2^63/\seqIndex? i a.length=Φ k/\a[k]?=Φ y/\Q y (upd H l (.lst (a.eraseIdx k)))
def znz:MtM X "list.pop" zsL:=by
 intro c s G H x J v L Q I f g h;let⟨l,j,i,k,y,rfl,rfl,d,m,o,p,A,q⟩:=h;cases f;let⟨u,rfl,B⟩:=g.one;let⟨t,rfl⟩:=B;let⟨z,a,n,r,C,e⟩:=I.lstM d;let⟨w,E,b⟩:=r.get A;refine call_meets F.slot_list_pop ⟨_,e,rfl⟩ F.entry_list_pop (F.args_list_pop_2 _ _)
  (MeetsSeq.list_pop_at l a.toArray n i t k w (fitsIndex_both m o) (by rw[size_toArray,<-C];exact p) (by rw[<-Array.getElem?_toList];exact E) (by rw[size_toArray];lia)) ⟨e,?_⟩
 refine⟨y,_,I.lset (its':=a.eraseIdx k) d e ?_ (r.eraseIdx k) ?_,b,q⟩;show a.toArray.eraseIdxIfInBounds k=(a.eraseIdx k).toArray;rw[List.eraseIdxIfInBounds_toArray];have:=zgI j k;lia
abbrev rCat:R2:=λx y H Q=>∃l b a c,x=.ref l/\y=.ref b/\H l=Φ (.lst a)/\H b=Φ (.lst c)/\a.length+c.length<=sizeLine/\∀p,H p=Ψ->Q (.ref p) (upd H p (.lst (a++c)))
def ztd:OpR X (binaryOp .Add) rCat:=by
 intro d s p H x y v u Q I f g h;let⟨l,b,t,w,rfl,rfl,i,hB,A,q⟩:=h;cases f;cases g;let⟨z,c,n,r,B,e⟩:=I.lstM i;let⟨C,a,E,j,k,m⟩:=I.lstM hB;refine PySem.P.add_list e m ?_ (by rw[size_toArray,size_toArray];lia);have o:c.toArray++a.toArray=(c++a).toArray:=by simp
 rw[o];exact⟨.ref _,_,I.lnew (t':=s.toks) (r.append j) (by rw[length_append];lia),rfl,q _ I.fresh⟩
end
end L2
namespace Att
open PySem PySem.W PySem.Calls PyProof.Rows
def zec:∀(ns:List Int)(vs:List Ξ),WellAll P h vs (ns.map WData.int)->IntsAre vs ns:=by intro ns;induction ns with| nil=>intro vs w;rw[map_nil]at w;cases w;exact .nil| cons n ns c=>intro vs w;rw[Ν]at w;cases w with| cons a b=>cases a;exact .cons _ _ (c _ b)
def zkn{l:OpenLaw}(o:l.most=Φ n)(b:l.row.toRowW.claim.pre args=Γ)(j:WellAll P h c args):
  ∃a vs ns,c=[Ξ.ref a]/\args=[WData.list (ns.map WData.int)]/\h.get? a=Φ {cls:=.type "list",data:=.seq vs.toArray}/\IntsAre vs ns/\ns.length<=n:=by
 have k:WShape.hasAll [] args [.list .int]=Γ:=(pre_splitW b).1;have m:l.pre.holds [] {args:=args}=Γ:=(pre_splitW b).2;let⟨d,r,rfl,p,s⟩:=hasAllW_cons k;obtain rfl:=hasAllW_nil s;let⟨y,rfl,t⟩:=hasW_list p;let⟨ns,rfl⟩:=items_int t;have e:ns.length<=n:=by
  unfold OpenLaw.pre at m;have g:(WTm.not (.lt (.lit (.int (n:Int))) (.len (.arg 0)))).holds [] {args:=[.list (ns.map .int)]}=Γ:=by have g:=(holds_andW m).1;rw[o]at g;exact g
  have i:=condW_of g (w_not (w_lt w_lit (w_len_list (w_arg rfl))));rw[length_map]at i;refine Nat.le_of_not_lt λq=>?_;have u:(n:Int)<((ns.length:Nat):Int):=by omega
  first
   |(rw[decide_eq_true u]at i;exact absurd i (by decide))
   |(simp at i;omega)
 cases j with| cons v w=>cases w;cases v with|list x f=>exact⟨_,_,ns,rfl,rfl,x,zec ns _ f,e⟩
def zkW(l:OpenLaw)(args):l.row.toRowW.claim.post args (.bool Γ) args=Γ:=
 postW_of (r:=l.row.toRowW) (X:=(Γ==Γ))
  (show WShape.has [] (.bool Γ) .bool=Γ by first|rfl|decide|simp[WShape.has,WShape.arms,WShape.armsAll])
  (show(WTm.eq .res (.lit (.bool Γ))).value [] {args:=args,res:=Φ (.bool Γ),after:=args}=Φ (.bool (Γ==Γ)) from w_eq_bool (w_res rfl) w_lit) rfl
def attach_call{l:OpenLaw}(B:l.most=Φ n)(s:d.params.defaults=[])(call:∀(w:ό)(s₀ b:Β)(m t:Str->Option Ξ)(h:Addr)(o:Obj)(u p c:Ξ)(a:Addr)(vs:List Ξ)(ns:List Int),
   Ground q e [] C w s₀ m t b.heap->YP w b.heap->
   b.heap.get? h=Φ o->o.data=.func (docDef d.name d.params d.body d.scope u p c)->b.heap.CodeRec p d.name->m d.name=Φ (.ref h)->
   b.heap.get? a=Φ {cls:=.type "list",data:=.seq vs.toArray}->IntsAre vs ns->ns.length<=n->b.gens = #[]->
   codeAny (model l.prog w) callerA (.call (.ref h) ⟨[.ref a],[]⟩) (λr s'=>r=.ok (.ret (.bool Γ))/\OldK b.heap s'.heap/\s'.os=b.os/\AllBare s'.gens) b):
  WalkO q e C YP l.row.toRowW d [] (λf vs=>PySem.call f vs):=by
 intro w s₀ b m t G Y h o u p c E kV H I v hD x J args z as i A L y M;obtain rfl:E=.none:=Dflts.none hD s;obtain rfl:kV=.none:=Dflts.noKw hD;let⟨a,vs,ns,rfl,rfl,j,g,k⟩:=zkn B i y;refine enter_call (Ϟ (call w s₀ b m t h o u p c a vs ns G Y H (fd_plain I) v x j g k J) λr s' N=>?_);let⟨rfl,O,Q,T⟩:=N;exact⟨.inl ⟨.bool Γ,.bool Γ,[],rfl,λ_=>rfl,.bool Γ,zkW l _,λ_=>⟨Pairwise.nil,λ_ U=>(by cases U)⟩⟩,O,Q,T⟩
end Att
namespace L2
open PySem PySem.Spec PyProof.Rows
def zdI:∀{vs:List Ξ}{ns:List Int},IntsAre vs ns->Vals (ns.map V.int) vs
 |_,_,.nil=>.nil|_,_,.cons n t h=>.cons ⟨t,rfl⟩ (zdI h)
abbrev zaq(s:Stmt):Arguments:=match s with|.FunctionDef _ a _ _ _ _ _ _ _ _=>a|_=>{posonlyargs:=[],args:=[],vararg:=Ψ,kwonlyargs:=[],kw_defaults:=[],kwarg:=Ψ,defaults:=[]}
abbrev zaj(s:Stmt):List Stmt:=match s with|.FunctionDef _ _ b _ _ _ _ _ _ _=>b|_=>[]
abbrev zaa(s:Stmt):Scope:=match s with|.FunctionDef _ _ _ _ _ _ a _ _ _=>a|_=>{kind:=.function,names:=[],isGenerator:=Δ,isCoroutine:=Δ}
@[reducible]def CX0:CXT:=λ_ _ _ _ _ _=>False
@[reducible]def E0:XK:=λ_ _ _=>False
def zhG:zew CX0 X E0:=λ_ _ _ _ _ _ _ h=>h.elim
structure Fun(K:Frag)(x qual:Str)(st:Stmt)(f:Addr)(fd:FuncData):Prop where
 ex:∃(oc:Ξ) (od:Option Addr) (kV doc pm:Ξ) (an:Option Addr) (cdv ct:Ξ) (osl:Array (Option Ξ)),
  fd=fnOf x qual (zaq st) (zaj st) (zaa st) .none kV doc pm an cdv ct/\K.lookup f=Φ ⟨oc,od,.func fd,osl⟩/\codeIn K cdv qual=Γ
 kp:keepIn K (.ref f)=Γ
abbrev Same(H H':Hp):Prop:=∀b o,H b=Φ o->H' b=Φ o
abbrev zbm(a:List (Str×Addr))(y:Str×NameKind)(b:List (Str×Addr)):List (Str×Addr):=if(y.2==NameKind.free)=Γ then(match a.lookup y.1 with|some c=>(y.1,c)::b|none=>b) else b
abbrev zh4(b:List (Str×Addr))(names:List (Str×NameKind))(c:List (Str×Addr)):List (Str×Addr):=names.foldl (λa y=>zbm b y a) c
def zeh{c a:Type}(f)(g:c->a->a):∀(l:List c)(b:a),(∀x∈l,∀b,f x b=pure (.yield (g x b)))->forIn l b f=(pure (l.foldl (λb x=>g x b) b):Sem a)
 | [],b,_=>rfl| x::l,b,h=>by rw[List.forIn_cons,h x Μ,pure_bind];exact zeh f g l _ λy d=>h y (Κ _ d)
def zbX(h:∀y∈scope.names,y.2=.free->∃c,env.cells.lookup y.1=Φ c):
  closureFor scope env=pure (zh4 env.cells scope.names []):=by
 unfold closureFor zh4;dsimp only;rw[zeh _ (λy a=>zbm env.cells y a)];simp;intro y e a;let⟨n,k⟩:=y;by_cases b:k=.free;let⟨c,d⟩:=h _ e b;subst b;simp at d;simp[cellOf,d,zbm];have:(k==NameKind.free)=Δ:=by simpa using b
 simp[this,zbm]
def zg3:∀(names:List (Str×NameKind))(b:List (Str×Addr)),(∀x c,b.lookup x=Φ c->a.lookup x=Φ c)->
  ∀x c,(zh4 a names b).lookup x=Φ c->a.lookup x=Φ c
 | [],b,h=>h| y::r,b,h=>by
  refine zg3 r (zbm a y b) ?_;intro x c e;unfold zbm at e;split at e;split at e;rename_i g d;rw[Ϣ]at e;cases f:x==y.1 with| true=>rw[f]at e;have q:x=y.1:=beq_iff_eq.mp f;have i:g=c:=Option.some.inj e;rw[q,<-i];exact d|false=>rw[f]at e;exact h x c e
  exact h x c e;exact h x c e
def zel:∀(names:List (Str×NameKind))(a:List (Str×Addr))(x:Str),(∀y∈names,y.2=.free->∃c,b.lookup y.1=Φ c)->
  ((∃c,a.lookup x=Φ c)\/(x,NameKind.free)∈names)->∃c,(zh4 b names a).lookup x=Φ c
 | [],a,x,_,h=>by rcases h with h|h;exact h;cases h
 |y::r,a,x,d,h=>by
  refine zel r (zbm b y a) x (λz f=>d z (Κ _ f)) ?_;rcases h with⟨c,h⟩|h;left;unfold zbm;split;split;rename_i g i;rw[Ϣ];cases j:x==y.1 with|true=>exact⟨g,rfl⟩|false=>exact⟨c,h⟩
  exact⟨c,h⟩;exact⟨c,h⟩;rcases mem_cons.mp h with h|h;left;subst h;let⟨c,e⟩:=d _ Μ rfl;refine⟨c,?_⟩;simp at e;simp[zbm,e];exact .inr h
abbrev zcu(env:Env)(y:Str×NameKind):Str×NameKind:=if(y.2==.free&&env.scope.kind==.function&&env.kindOf y.1==Φ .cell)=Γ then(y.1,.cell) else y
def zbL(scope)(env):(relabel scope env).names=scope.names.map (zcu env):=by unfold relabel;show scope.names.map _=_;refine Τ λy _=>?_;let⟨n,k⟩:=y;rfl
def zdP(env)(y):(zcu env y).1=y.1:=by unfold zcu;split<;>rfl
def zdO(env)(y):(zcu env y).2=y.2\/(y.2=.free/\(zcu env y).2=.cell):=by unfold zcu;split;rename_i h;replace h:=qL qb1 h;exact .inr ⟨h.1.1,rfl⟩;exact .inl rfl
def zb5(env)(x):∀names:List (Str×NameKind),∀k,(names.map (zcu env)).lookup x=Φ k->∃a,(x,a)∈names/\names.lookup x=Φ a/\(k=a\/(a=.free/\k=.cell))
 | [],k,h=>by simp at h| y::r,k,h=>by rw[Ν]at h;have c:=zdP env y;have d:=zdO env y;let⟨n,f⟩:=y;generalize j:zcu env (n,f)=z at *;let⟨g,i⟩:=z;simp only at c d;subst c;rw[Ϣ]at h;rw[Ϣ];cases b:x==g with| true=>rw[b]at h;have q:x=g:=beq_iff_eq.mp b;subst q;have e:i=k:=Option.some.inj h;subst e;exact⟨f,Μ,rfl,d⟩| false=>rw[b]at h;let⟨a,m,l,q⟩:=zb5 env x r k h;exact⟨a,Κ _ m,l,q⟩
def zbM(env)(x):∀names:List (Str×NameKind),names.lookup x=Φ .free->(names.map (zcu env)).lookup x=Φ .free\/(names.map (zcu env)).lookup x=Φ .cell
 | [],h=>by simp at h| y::r,h=>by
  rw[Ν];have b:=zdP env y;have a:=zdO env y;let⟨n,c⟩:=y;generalize i:zcu env (n,c)=z at *;let⟨g,d⟩:=z;simp only at b a;subst b;rw[Ϣ]at h;rw[Ϣ];cases f:x==g with
  |true=>rw[f]at h;have e:c=.free:=Option.some.inj h;subst e;rcases a with a|⟨_,a⟩;left;show Φ d=_;rw[a];right;show Φ d=_;rw[a]
  |false=>rw[f]at h;exact zbM env x r h
structure CompOk(sc scope:Scope)(N0:List Str)(js:List Nat):Prop where
 kind:scope.kind=.function
 nocell:∀y∈scope.names,y.2≠.cell
 locs:∀y∈scope.names,y.2=.local->scope.names.lookup y.1=Φ .local
 frees:∀y∈scope.names,y.2=.free->sc.names.lookup y.1=Φ .cell\/sc.names.lookup y.1=Φ .free
 caps:∀j∈js,scope.names.lookup (N0.getD j "")=Φ .free/\j<N0.length
noncomputable abbrev zaI(X:Cx)(N':List Str)(scope:Scope)(cl:List (Str×Addr))(C:Addr)(a:List Addr)(s:Β)(H:Hp)(pn:List (Addr×Obj)):Cx:={X with N:=N',s₀:=s,H₀:=H,env:=compEnvC scope cl C X.env,outer:=X.stack,stack:=X.stack,ex:=a,fn:=λ_=>Δ,pn:=pn,xe:=λ_ _=>False}
abbrev csl(a:Nat)(b:List Nat)(c:St):St:=List.replicate a Ψ++b.map λj=>(c[j]?).join
noncomputable abbrev capN(a:List Str)(tgs:List Str)(b:List Nat):List Str:=tgs++b.map λj=>a.getD j ""
abbrev PTs(X:Cx)(b:List Expr)(t:TT):Prop:=
 ∀(a:List (Addr×Obj))(s:Β)(d:St)(H:Hp)(Q:Bool->Hp->Prop),Inv X a d H s->t d H Q->
  wpAny (model X.prog X.w) X.A (forIn b Γ λc r=>if r=Γ then do let e <-isTrue c X.env (eval c X.env);pure (ForInStep.yield e) else pure (ForInStep.yield r)) (TP X a d Q) X.xe s
abbrev tYes:TT:=λ_ H Q=>Q Γ H
def zqk:PTs X [] tYes:=λa s b H Q I h=>wpAny_tests_nil ⟨H,I,h⟩
def zkP(h:PT X c t):PTs X [c] t:=λa s b H Q I q=>wpAny_tests_one (h a s b H Q I q)
abbrev zps(o:Nat)(q:List Nat)(r:TI)(g:TG)(tt:TT)(s:TE):TE:=λh H Q=>r h H λJ j=>∀p,j p=Ψ->
 ∃W:Nat->Nat->St->Hp->Prop,(∃m,W 0 m (csl o q h) (upd j p (.lst [])))/\∀i m d e,W i m d e->
  (J.stop i e/\Q (.ref p) e)\/(J.go i e/\∃N:St->Hp->Prop,(∀a f,N a f->∃k,k<m/\W (i+1) k a f)/\
   ∀x f,J.yld i e x f->g x d f λa t=>tt a t λb l=>if b=Γ then s a l λv n=>∃c,n p=Φ (.lst c)/\c.length<sizeLine/\N a (upd n p (.lst (c++[v]))) else N a l)
section
variable{prog:ϊ}{w:ό}{A:ϐ}{R:Result->Β->Prop}{s:Β}
def zjL(J:Nat->Β->Prop)(k:∀n s,J n s->wpAny (model prog w) A (pyNext it) (λr b=>(r=Ψ/\R (.ok .next) b)\/∃v,r=Φ v/\
   wpAny (model prog w) A (letOwnedTupleGo B it v) (λ_ s₀=>wpAny (model prog w) A (assign B env v) (λ_ e=>
    wpAny (model prog w) A (forIn l Γ λc r=>if r=Γ then do let ok <-isTrue c env (eval c env);pure (ForInStep.yield ok) else pure (ForInStep.yield r)) (λok d=>
     if ok=Γ then wpAny (model prog w) A (eval o env) (λx g=>wpAny (model prog w) A (call (.builtin "list.append") [p,x]) (λ_ i=>∃m,m<n/\J m i) (λ_ _=>False) g) (λ_ _=>False) d
     else ∃m,m<n/\J m d) (λ_ _=>False) e) (λ_ _=>False) s₀) (λ_ _=>False) b) (λ_ _=>False) s)(n)(h:J n s):codeAny (model prog w) A (.compLoop (.ListComp o [⟨B,q,l,0⟩] scope pos) 0 it p env) R s:=by
 refine codeAny_loop rfl J (λn s C=>?_) n h;show wpAny _ A ((compTurn (.ListComp o [⟨B,q,l,0⟩] scope pos) 0 it p env).onRaise (λx=>do noteFrame x env;theTreesLotGoes x)) _ _ s;refine wpAny_noted ?_;rw[compTurn_list];refine Θ (wpAny_standAt (Θ (ύ (k n s C) (λr b a=>?_) λ_ _ f=>f.elim)));rcases a with⟨rfl,a⟩|⟨v,rfl,a⟩;exact Ω a;refine Θ (ύ a (λ_ s₀ t=>?_) λ_ _ f=>f.elim);refine Θ (ύ t (λ_ e u=>?_) λ_ _ f=>f.elim);refine Θ (ύ u (λok d j=>?_) λ_ _ f=>f.elim);cases ok with|false=>exact Ω ⟨rfl,j⟩| true=>refine Θ (Θ (ύ j (λx g y=>?_) λ_ _ f=>f.elim));exact Θ (ύ y (λ_ i z=>Ω (Ω ⟨rfl,z⟩)) λ_ _ f=>f.elim)
end
section
variable{X:Cx}{sc scope:Scope}{tgs:List Str}{js:List Nat}{elt tg iter:Expr}{ifs:List Expr}{pos:Pos}{wi:TI}{g:TG}{tt:TT}{te:TE}
def zeQ(hc:X.calm=Γ)(hsc:X.env.scope=sc)(ok:CompOk sc scope X.N js)(hg:∀cl C A s H pn,PG (zaI X (capN X.N tgs js) scope cl C A s H pn) tg g)(ht:∀cl C A s H pn,PTs (zaI X (capN X.N tgs js) scope cl C A s H pn) ifs tt)(he:∀cl C A s H pn,PE (zaI X (capN X.N tgs js) scope cl C A s H pn) elt te){RR:Ξ->Addr->Result->Β->Prop}{Q:VK}(I2:Inv X a σ H2 s2)(T:Turn X.prog X.w X.K tg J A it tn)(st2:tn 0 s2.heap)(f2:∀b∈A,FpOk X a H2 b)(rd:∀p,H2 p=Ψ->∃W:Nat->Nat->St->Hp->Prop,(∃m,W 0 m (csl tgs.length js σ) (upd H2 p (.lst [])))/\∀i m G H',W i m G H'->
   (J.stop i H'/\Q (.ref p) H')\/(J.go i H'/\∃N:St->Hp->Prop,(∀O H2,N O H2->∃m',m'<m/\W (i+1) m' O H2)/\
    ∀x H2,J.yld i H' x H2->g x G H2 λO U=>tt O U λb H4=>if b=Γ then te O H4 λv H5=>∃I,H5 p=Φ (.lst I)/\I.length<sizeLine/\N O (upd H5 p (.lst (I++[v]))) else N O H4))(fin:∀p C H' s',Inv X a σ H' s'->(∃m,s'.heap.Ns C m)->s2.heap.objs.size<C->H' C=Ψ->Q (.ref p) H'->RR (.ref p) C (.ok .next) s'):
  wpAny (model X.prog X.w) X.A (newList []) (λI s₃=>wpAny (model X.prog X.w) X.A (newFunctionEnv scope X.env.globals (zh4 X.env.cells scope.names []) [] X.env.qual Ψ .none (Φ X.env)) (λcenv s₄=>codeAny (model X.prog X.w) X.A (.compStart (.ListComp elt [⟨tg,iter,ifs,0⟩] scope pos) 0 (.ref it) I {cenv with scope:=relabel scope X.env}) (RR I cenv.locals) s₄) E s₃) E s2:=by
 subst hsc;refine ϖ (wpAny_newFunctionEnv ok.nocell (by intro y hy;simp at hy) (λB hns₁ hsb₁=>?_) ok.kind);have w:Inv X a σ (upd H2 s2.heap.objs.size (.lst [])) {s2 with heap:=s2.heap.push {cls:=.type "list",data:=.seq ([]:List Ξ).toArray}}:=I2.lnew (its:=[]) (ys:=[]) (t':=s2.toks) .nil (zero_le _);let⟨W,⟨m0,w0⟩,turn⟩:=rd _ I2.fresh;generalize hp:s2.heap.objs.size=p at *;generalize hs3:({s2 with heap:=s2.heap.push {cls:=.type "list",data:=.seq ([]:List Ξ).toArray}}:Β)=l at w;have e3:l.heap=s2.heap.push {cls:=.type "list",data:=.seq ([]:List Ξ).toArray}:=by rw[<-hs3]
 have sz3:l.heap.objs.size=p+1:=by rw[e3,ώ,hp]
 generalize hH3:upd H2 p (.lst [])=U at *
 -- the block's frame
 have hns:B.Ns l.heap.objs.size (λx=>([]:List (Str×Ξ)).reverse.lookup x):=by rw[e3];exact hns₁
 have hsb:Heap.SameBut l.heap.objs.size (l.heap.push {cls:=.type "dict",data:=.dict #[]}) B:=by rw[e3];exact hsb₁
 have Y:∀b o,l.heap.get? b=Φ o->B.get? b=Φ o:=λb o e=>(hsb.2 b (ne_of_lt (Η e))).trans (Λ _ e);have frees:∀y∈scope.names,y.2=.free->∃c,X.env.cells.lookup y.1=Φ c:=λy hy hk=>I2.ok.has y.1 (ok.frees y hy hk);have t:∀x c,(zh4 X.env.cells scope.names []).lookup x=Φ c->X.env.cells.lookup x=Φ c:=zg3 scope.names [] (λx c e=>by simp at e);generalize hcl:zh4 X.env.cells scope.names []=cl at *;have okX:(zaI X (capN X.N tgs js) scope cl l.heap.objs.size A l U (X.pn++a)).Ok:=
  {mod:=w.ok.mod,kind:=ok.kind,glob:=w.ok.glob,blt:=w.ok.blt,above:=le_refl _,
   inj:=λx y c e1 M=>w.ok.inj x y c (t x c e1) (t y c M),
   has:=λx hk=>by
    have hk':(scope.names.map (zcu X.env)).lookup x=Φ .cell\/(scope.names.map (zcu X.env)).lookup x=Φ .free:=by rw[<-zbL];exact hk
    rw[<-hcl];refine zel scope.names [] x frees (.inr ?_);rcases hk' with q|q;let⟨k0,m,_,e⟩:=zb5 X.env x _ _ q;rcases e with e|⟨e,_⟩;subst e;exact absurd rfl (ok.nocell _ m);subst e;exact m;let⟨k0,m,_,e⟩:=zb5 X.env x _ _ q;rcases e with e|⟨e,z⟩;subst e;exact m;exact absurd z (λh=>(by cases h)),
   cab:=λx c e=>absurd e Ο,hd:=w.ok.hd,frames:=w.ok.frames,stk:=.inl rfl,
   exf:=λb f=>⟨ne_of_lt (by
    let⟨o,ho,_⟩:=T.obj 0 _ st2 b f;show b<l.heap.objs.size;rw[sz3,<-hp];exact ϣ (Η ho)),λx c e=>(f2 b f).2.2.2.2.1 x c (t x c e)⟩,
   bs:=w.bs,bsz:=le_trans w.ok.bsz w.sz,
   noex:=λb o e f=>by rcases(f2 b f).2.2.2.1 with z|z;exact w.ok.noex b o e z;exact absurd (lt_of_lt_of_le (Η e) (le_trans w.ok.bsz z)) (lt_irrefl _),
   exfs:=λb f hx=>by rcases mem_cons.mp (w.stkSub b hx) with z|z;exact(f2 b f).2.1 z;exact(f2 b f).2.2.1 z,
   funs:=w.stack,frf:=w.stkFree}
 have I4:Inv (zaI X (capN X.N tgs js) scope cl l.heap.objs.size A l U (X.pn++a)) [] (csl tgs.length js σ) U {l with heap:=B}:=
  {ok:=okX,os:=rfl,bare:=w.bare,base:=Un.kept Y,
   loc:=⟨_,hns,λi x v e1 M e3=>by
    have e1:(tgs++js.map λj=>X.N.getD j "")[i]?=Φ x:=e1;have M:(List.replicate tgs.length Ψ++js.map λj=>(σ[j]?).join)[i]?=Φ (Φ v):=M;by_cases hi:i<tgs.length;rw[getElem?_append_left (by rw[length_replicate];exact hi),List.getElem?_replicate,if_pos hi]at M;cases M;rw[getElem?_append_right (by lia),getElem?_map]at e1;rw[getElem?_append_right (by rw[length_replicate];lia),length_replicate,getElem?_map]at M;cases hj:js[i-tgs.length]? with
    |none=>rw[hj]at e1;exact nS e1
    |some j=>
     rw[hj]at e1 M;have e1:X.N.getD j ""=x:=Option.some.inj e1;have M:(σ[j]?).join=Φ v:=Option.some.inj M;have hjm:j∈js:=mem_of_getElem? hj;let⟨hfr,hjl⟩:=ok.caps j hjm;rw[e1]at hfr;have hNj:X.N[j]?=Φ x:=by rw[Ι hjl];rw[ϋ,Ι hjl]at e1;exact congrArg Φ e1
     have hσ:σ[j]?=Φ (Φ v):=by
      cases q:σ[j]? with
      |none=>rw[q]at M;exact nS M
      |some o=>rw[q]at M;have M:o=Φ v:=M;rw[M]
     have hmem:(x,NameKind.free)∈scope.names:=by let⟨l1,l2,h3,_⟩:=List.lookup_eq_some_iff.mp hfr;rw[h3];simp
     have hkX:=ok.frees _ hmem rfl;have hvis:Vis X.env.scope x:=hkX.elim (λz=>.inr (.inl z)) λz=>.inr (.inr z);let⟨m,hn,hl⟩:=w.loc;let⟨u,r,lk⟩:=hl j x v hNj hσ hvis;refine⟨u,r,.inr ⟨?_,?_⟩⟩;have q:=zbM X.env x scope.names hfr;rw[<-zbL]at q;exact q.symm;rcases lk with⟨k,_⟩|⟨_,c,ec,z⟩
     . exfalso;have k:X.env.scope.names.lookup x=Φ .local:=k;rcases hkX with q|q<;>(rw[k]at q;cases q)
     obtain⟨c',hc'⟩:∃c',cl.lookup x=Φ c':=by rw[<-hcl];exact zel scope.names [] x frees (.inr hmem)
     have q:=t x c' hc';rw[ec]at q;cases q;let⟨o,ho,hd⟩:=z;exact⟨c,hc',o,Y _ _ ho,hd⟩⟩,
   cell:=λx c e=>by let⟨v,o,ho,hd⟩:=w.cell x c (t x c e);exact⟨v,o,Y _ _ ho,hd⟩,
   free:=w.fresh,
   freeC:=λx c e=>w.freeC x c (t x c e),
   pin:=λq hq=>by
    have hq:q∈X.pn++a:=by simpa using hq
    let⟨e,n,ne,nf,d⟩:=w.pin q hq;refine⟨Y _ _ e,n,ne_of_lt (Η e),λz=>?_,d⟩;rcases mem_cons.mp (w.stkSub _ z) with z|z;exact ne z;exact nf z,
   hok:=w.hok.kept Y,
   len:=by show(List.replicate tgs.length Ψ++js.map λj=>(σ[j]?).join).length=(tgs++js.map λj=>X.N.getD j "").length;simp}
 have stat:∀{H':Hp},(∀b∈A,H' b=Ψ)->∀b∈A,FpOk (zaI X (capN X.N tgs js) scope cl l.heap.objs.size A l U (X.pn++a)) [] H' b:=λhn b f=>
  ⟨hn b f,(okX.exf b f).1,okX.exfs b f,.inl f,(okX.exf b f).2,λq hq=>by
   have hq:q∈X.pn++a:=by simpa using hq
   exact(f2 b f).2.2.2.2.2 q hq⟩
 have fr3:∀b∈A,U b=Ψ:=λb f=>by let⟨o,ho,_⟩:=T.obj 0 _ st2 b f;rw[<-hH3,zad (ne_of_lt (hp▸Η ho))];exact(f2 b f).1
 have st4:tn 0 B:=T.keep 0 _ _ st2 λb f o e=>Y b o (by rw[e3];exact Λ _ e);have loop:codeAny (model X.prog X.w) X.A (.compLoop (.ListComp elt [⟨tg,iter,ifs,0⟩] scope pos) 0 (.ref it) (.ref p) (compEnvC scope cl l.heap.objs.size X.env)) (RR (.ref p) l.heap.objs.size) {l with heap:=B}:=by
  refine zjL (λn s'=>∃i G H',Inv (zaI X (capN X.N tgs js) scope cl l.heap.objs.size A l U (X.pn++a)) [] G H' s'/\tn i s'.heap/\(∀b∈A,H' b=Ψ)/\W i n G H') ?_ m0 ⟨0,_,U,I4,st4,fr3,w0⟩;rintro n s4 ⟨i,σ4,H4,J4,st4,fr4,w4⟩;rcases turn i n σ4 H4 w4 with⟨stop,qn⟩|⟨go,N,hN,step⟩;refine thn (T.done (zaI X (capN X.N tgs js) scope cl l.heap.objs.size A l U (X.pn++a)) rfl rfl rfl hc i [] s4 σ4 H4 _ J4 (stat fr4) st4 stop) λr s5 ⟨hr,J5⟩=>.inl ⟨hr,?_⟩;have hX:Inv X a σ H4 s5:=w.call' J5.os J5.base J5.hok J5.bare λb f=>⟨(f2 b f).2.2.2.1,(f2 b f).2.1,(f2 b f).2.2.2.2.1,(f2 b f).2.2.2.2.2⟩;let⟨m,hm,_⟩:=J5.loc;exact fin p _ H4 s5 hX ⟨m,hm⟩ (by rw[sz3];exact ϗ _) J5.free qn
  refine thn (T.item (zaI X (capN X.N tgs js) scope cl l.heap.objs.size A l U (X.pn++a)) rfl rfl rfl hc i [] s4 σ4 H4 _ J4 (stat fr4) st4 go) λr s5 ⟨u,hr,h5⟩=>.inr ⟨u,hr,?_⟩;refine thn h5 λ_ s6 q'=>?_;let⟨x,H6,J6,r6,y6,st6,fr6⟩:=q';have J6':=J6.pinned (stat fr6) (T.obj _ _ st6);refine thn (hg _ _ _ _ _ _ _ s6 σ4 H6 x u _ J6' r6 (step x H6 y6)) λ_ s7 q'=>?_;let⟨L,H7,J7,q7⟩:=q';refine thn (ht _ _ _ _ _ _ _ s7 L H7 _ J7 q7) λok8 s8 q'=>?_;let⟨H8,J8,q8⟩:=q';have again:∀{s9:Β}{H9:Hp},Inv (zaI X (capN X.N tgs js) scope cl l.heap.objs.size A l U (X.pn++a)) ([]++zgx A s6.heap) L H9 s9->N L H9->
    ∃m,m<n/\∃i G H',Inv (zaI X (capN X.N tgs js) scope cl l.heap.objs.size A l U (X.pn++a)) [] G H' s9/\tn i s9.heap/\(∀b∈A,H' b=Ψ)/\W i m G H':=λ{s9 H9} J9 n9=>by
   let⟨m',hm,w9⟩:=hN L H9 n9;refine⟨m',hm,i+1,L,H9,J9.unpinned,T.keep _ _ _ st6 λb f o e=>(J9.pin (b,o) (mem_append_right _ (mem_append_right _ (zcn f e)))).1,λb f=>?_,w9⟩;let⟨o,e,d⟩:=T.obj _ _ st6 b f;exact(J9.pin (b,o) (mem_append_right _ (mem_append_right _ (zcn f e)))).2.1
  cases ok8 with|false=>exact again J8 q8| true=>refine thn (he _ _ _ _ _ _ _ s8 L H8 _ J8 q8) λy s9 q'=>?_;let⟨v,H9,J9,r9,I,ha,hl,q9⟩:=q';refine thn (zgA _ s9 L H9 (.ref p) [v] (.ref p) [y] (λ_ H=>N L H) J9 rfl (.cons r9 .nil) ⟨p,I,v,rfl,rfl,ha,hl,q9⟩) λ_ s10 q'=>?_;let⟨_,H10,J10,_,q10⟩:=q';exact again J10 q10
 exact codeAny_compStart_list loop (T.self _ 0 _ _ _ st4 loop)
def zno(sc)(tgs)(js)(r:X.calm=Γ)(d:X.env.scope=sc)(ok:CompOk sc scope X.N js)(t:PI X tg iter wi)(u:∀cl C a s H pn,PG (zaI X (capN X.N tgs js) scope cl C a s H pn) tg g)(w:∀cl C a s H pn,PTs (zaI X (capN X.N tgs js) scope cl C a s H pn) ifs tt)(z:∀cl C a s H pn,PE (zaI X (capN X.N tgs js) scope cl C a s H pn) elt te)(hs:∀x,foldedSetIterable iter X.env x=pure x:=by intro _;rfl):
  PE X (.ListComp elt [⟨tg,iter,ifs,0⟩] scope pos) (zps tgs.length js wi g tt te):=by
 intro f s A H Q I h;rw[eval_ListComp];have frees:∀y∈scope.names,y.2=.free->∃c,X.env.cells.lookup y.1=Φ c:=λy B E=>I.ok.has y.1 (by
  have q:=ok.frees y B E;rw[<-d]at q;exact q)
 refine wpAny_comprehension_free (use:=Ψ) rfl hs (zbX frees) ok.kind ok.locs (thn (t f s A H _ I h) λv s1 G=>thn G λL s2 M=>?_);let⟨it,a,tn,J,H2,e,i,T,k,N,O⟩:=M;subst e;refine zeQ r d ok u w z i T k N O (Q:=Q) λp C U Y I' l j hn q=>?_;let⟨m,l⟩:=l;refine⟨m,l,λh' n=>⟨.ref p,U,?_,rfl,q⟩⟩;exact I'.turned (t':=Y.toks) (it:=C) (λb o hb e=>(n.2 b hb).trans e) hn (ne_of_gt (lt_trans i.lt j)) (.inr (le_trans i.sz (le_of_lt j))) (λx c e=>by let⟨v,o,ho,_⟩:=i.cell x c e;exact ne_of_lt (lt_trans (Η ho) j)) λq hq=>ne_of_lt (lt_trans (Η (i.pin q hq).1) j)
def zql(sc)(tgs)(js)(hN:X.N.Nodup)(r:X.N[i]?=Φ y)(t:Loc X.env.scope y)(hc:X.calm=Γ)(j:X.env.scope=sc)(ok:CompOk sc scope X.N js)(hi:PI X tg iter wi)(hg:∀cl C f s H pn,PG (zaI X (capN X.N tgs js) scope cl C f s H pn) tg g)(ht:∀cl C f s H pn,PTs (zaI X (capN X.N tgs js) scope cl C f s H pn) ifs tt)(he:∀cl C f s H pn,PE (zaI X (capN X.N tgs js) scope cl C f s H pn) elt te)(u:swapsWith (.ListComp elt [⟨tg,iter,ifs,0⟩] scope pos) (Φ (.Name y py)) spos.line X.env=pure Γ:=by rfl)(hs:∀x,foldedSetIterable iter X.env x=pure x:=by intro _;rfl)(hf:X.fn y=Γ\/X.env.scope.names.lookup y=Φ .local:=by first|exact .inl rfl|exact .inr rfl|assumption):
  PS X (.Assign [.Name y py] (.ListComp elt [⟨tg,iter,ifs,0⟩] scope pos) spos) (tAsg (zps tgs.length js wi g tt te) (zfU i)):=by
 intro d s w H D I h;have frees:∀y∈scope.names,y.2=.free->∃c,X.env.cells.lookup y.1=Φ c:=λy t hk=>I.ok.has y.1 (by
  have q:=ok.frees y t hk;rw[<-j]at q;exact q)
 rw[exec_Assign_Name_used _ _ _ _ u];refine Θ (wpAny_standAt (Θ ?_));show wpAny _ X.A (do let _ <-comprehension (.ListComp elt [⟨tg,iter,ifs,0⟩] scope pos) scope X.env _ (newList []) Δ (eval iter X.env) (Φ (assign (.Name y py) X.env))) _ _ s;refine Θ (ύ (wpAny_comprehension_free (use:=Φ (assign (.Name y py) X.env)) (Q:=λ_ A=>SP X d D .next A) rfl hs (zbX frees) ok.kind ok.locs
  (thn (hi d s w H _ I h) λv s1 h1=>thn h1 λitv s2 h2=>?_)) (λ_ A B=>Ω (Ω B)) λ_ _ e=>e)
 let⟨it,f,tn,J,H2,e,k,T,E,f2,rd⟩:=h2;subst e;refine zeQ hc j ok hg ht he k T E f2 rd (Q:=λx H1=>zfU i x w H1 D.nx) λp C H' A I' G n hn q=>?_;let⟨m,G⟩:=G;have hL:C≠X.env.locals:=ne_of_gt (lt_trans k.lt n);have l:∀x c,X.env.cells.lookup x=Φ c->c≠C:=λx c e=>by let⟨v,o,ho,_⟩:=k.cell x c e;exact ne_of_lt (lt_trans (Η ho) n)
 show wpAny _ X.A (assign (.Name y py) X.env (.ref p)) _ _ _;refine wpAny_assign_Name (zge I' hN r t (v:=.ref p) rfl (λL M N=>?_) hf);let⟨a,O,ha⟩:=N;have U:C≠a:=by rcases ha with z|z;rw[z];exact hL;exact λe=>l y a z e.symm
 refine⟨m,G.sameBut O U,λh' Y=>⟨w.set i (Φ (.ref p)),H',?_,q⟩⟩;exact M.turned (t':=L.toks) (it:=C) (λb o hb e=>(Y.2 b hb).trans e) hn hL (.inr (le_trans k.sz (le_of_lt n))) l λq B=>ne_of_lt (lt_trans (Η (k.pin q B).1) n)
end
structure FunV(K:Frag)(x qual:Str)(st:Stmt)(dV:Ξ)(f:Addr)(fd:FuncData):Prop where
 ex:∃(oc:Ξ) (od:Option Addr) (kV doc pm:Ξ) (an:Option Addr) (cdv ct:Ξ) (osl:Array (Option Ξ)),
  fd=fnOf x qual (zaq st) (zaj st) (zaa st) dV kV doc pm an cdv ct/\K.lookup f=Φ ⟨oc,od,.func fd,osl⟩/\codeIn K cdv qual=Γ
 kp:keepIn K (.ref f)=Γ
def zcI{K}{st}{e kV d g b ct}(l:K.lookup f=Φ ⟨j,m,.func (fnOf x a (zaq st) (zaj st) (zaa st) e kV d g i b ct),h⟩)(c:codeIn K b a=Γ)(k:keepIn K (.ref f)=Γ):FunV K x a st e f (fnOf x a (zaq st) (zaj st) (zaa st) e kV d g i b ct):=⟨⟨j,m,kV,d,g,i,b,ct,h,rfl,l,c⟩,k⟩
section
variable{P:ϊ}{w:ό}{K:Frag}{mg:Str->Option Ξ}{base:Heap}
def FunV.ok{st}(F:FunV K x b st l f fd)(S:FnScope N ps (zaa st))(len:∀vs H Q E,sp vs H Q E->vs.length=ps.length)(c:∀(a:Ξ)(A:ϐ)(outer:List Env)(s:Β)(H:Hp)(vs:List V)(Q:VK)(E:XK),Room k (A.deeper (envOfC b (zaa st) s.heap.objs.size f a))->sp vs H Q E->
   ∃t,PSs (cxOf CX0 P w K mg base N b (zaa st) f a A outer s H E).nox (zaj st) t/\t {nx:=λ_ H'=>Q .non H',rt:=Q} (start N vs) H):FnOk P w K mg base CX0 (k+1) f fd ps sp:=by
 let⟨m,n,kV,g,o,p,a,r,i,rfl,lk,d⟩:=F.ex;refine zrb lk d S len λA outer s H vs Q E j e=>?_;let⟨t,h,q⟩:=c a A outer s H vs Q E j e;exact⟨t,h.nox,q⟩
def FunV.binds{st}(F:FunV K x c st g f fd)(h:∀(kV a d:Ξ)(e:Option Addr)(b ct:Ξ)(us:List Ξ),us.length=ps.length->bindArgs (fnOf x c (zaq st) (zaj st) (zaa st) g kV a d e b ct) ⟨us,[]⟩=pure (ps.zip us)):Binds K fd ps []:=by
 let⟨k,l,kV,a,d,e,b,ct,i,rfl,lk,j⟩:=F.ex;exact .all (h kV a d e b ct)
structure Has(P:ϊ)(w:ό)(K:Frag)(mg:Str->Option Ξ)(base:Heap)(k:Nat)(x:Str)(ps:List Str)(dvs:List V)(sp:Sp):Prop where
 ex:∃(f:Addr) (fd:FuncData) (ds:List Ξ),FnOk P w K mg base CX0 k f fd ps sp/\mg x=Φ (.ref f)/\keepIn K (.ref f)=Γ/\Binds K fd ps ds/\Vals dvs ds
end
def zs1(G:Has X.prog X.w X.K X.mg X.base k x ps a sp)(d:Room k X.A)(g:PA X (e::es) t)(h:Gl X x:=by rfl)(b:(x==("__debug__":Str))=Δ:=by decide)(i:starEach (e::es) X.env=(Δ,eval e X.env)::starEach es X.env:=by rfl)(c:(backTo pos (starEach es X.env)).any (·.1)=Δ:=by rfl):
  PE X (.Call (.Name x p) (e::es) [] pos) (zfi sp a E0 t):=by
 let⟨f,o,q,F,j,l,m,n⟩:=G.ex;exact zqy F d h j l m n zhG g b i c
def zs0(G:Has X.prog X.w X.K X.mg X.base k x ps a sp)(c:Room k X.A)(d:Gl X x:=by rfl)(b:(x==("__debug__":Str))=Δ:=by decide):PE X (.Call (.Name x p) [] [] pos) (zfi sp a E0 tNil):=by
 let⟨f,j,l,F,e,g,h,i⟩:=G.ex;exact znw F c d e g h i zhG b
mutual
noncomputable def Rep(H:Hp):PyData->V->Prop
 |.none,v=>v=.non|.bool b,v=>v=.bl b|.int i,v=>v=.int i|.str x,v=>v=.str x|.list ds,v=>∃a vs,v=.ref a/\H a=Φ (.lst vs)/\RepAll H ds vs|.tuple ds,v=>∃a vs,v=.ref a/\H a=Φ (.tup vs)/\RepAll H ds vs|.dict _,_=>False
noncomputable def RepAll(H:Hp):List PyData->List V->Prop
 | [],vs=>vs=[]|d::ds,vs=>∃v r,vs=v::r/\Rep H d v/\RepAll H ds r
end
mutual
noncomputable def imm:PyData->Bool
 |.none=>Γ|.bool _=>Γ|.int _=>Γ|.str _=>Γ|.list _=>Δ|.tuple ds=>zgP ds|.dict _=>Δ
noncomputable def zgP:List PyData->Bool
 | []=>Γ|d::ds=>imm d&&zgP ds
end
abbrev Tups(H H':Hp):Prop:=∀b a,H b=Φ (.tup a)->H' b=Φ (.tup a)
def Tups.refl(H):Tups H H:=λ_ _ h=>h
def Tups.trans(a:Tups H e)(b:Tups e f):Tups H f:=λc d h=>b c d (a c d h)
def Tups.upd{H:Hp}{p:Addr}{o:HO}(h:∀xs,H p≠Φ (.tup xs)):Tups H (upd H p o):=λb xs e=>by
 have hb:b≠p:=λz=>by subst z;exact h xs e
 rw[zad hb];exact e
def Tups.upd_lst(h:H p=Φ (.lst xs)):Tups H (L2.upd H p o):=Tups.upd λa e=>by rw[h]at e;cases e
def Tups.upd_new(h:H p=Ψ):Tups H (L2.upd H p o):=Tups.upd λa e=>by rw[h]at e;exact nS e
mutual
theorem Rep.same{H H':Hp}(hs:Same H H'):∀{d:PyData}{v:V},Rep H d v->Rep H' d v
 |.none,_,h=>h|.bool _,_,h=>h|.int _,_,h=>h|.str _,_,h=>h| .list ds,v,h=>by let⟨a,vs,e,ha,r⟩:=h;exact⟨a,vs,e,hs _ _ ha,RepAll.same hs r⟩| .tuple ds,v,h=>by let⟨a,vs,e,ha,r⟩:=h;exact⟨a,vs,e,hs _ _ ha,RepAll.same hs r⟩|.dict _,_,h=>h
theorem RepAll.same{H H':Hp}(hs:Same H H'):∀{ds:List PyData}{vs:List V},RepAll H ds vs->RepAll H' ds vs
 | [],_,h=>h| d::ds,vs,h=>by let⟨v,r,e,h1,h2⟩:=h;exact⟨v,r,e,Rep.same hs h1,RepAll.same hs h2⟩
end
mutual
theorem Rep.tups{H H':Hp}(hs:Tups H H'):∀{d:PyData}{v:V},imm d=Γ->Rep H d v->Rep H' d v
 |.none,_,_,h=>h|.bool _,_,_,h=>h|.int _,_,_,h=>h|.str _,_,_,h=>h|.list ds,v,i,h=>by simp[imm]at i| .tuple ds,v,i,h=>by let⟨a,vs,e,ha,r⟩:=h;exact⟨a,vs,e,hs _ _ ha,RepAll.tups hs (by simpa[imm]using i) r⟩|.dict _,_,_,h=>h
theorem RepAll.tups{H H':Hp}(hs:Tups H H'):∀{ds:List PyData}{vs:List V},zgP ds=Γ->RepAll H ds vs->RepAll H' ds vs
 | [],_,_,h=>h| d::ds,vs,i,h=>by
  let⟨v,r,e,h1,h2⟩:=h;have i':imm d=Γ/\zgP ds=Γ:=by simpa[zgP]using i
  exact⟨v,r,e,Rep.tups hs i'.1 h1,RepAll.tups hs i'.2 h2⟩
end
mutual
theorem Rep.reads{X:Cx}{pins:List (Addr×Obj)}{σ:St}{H:Hp}{s:Β}(I:Inv X pins σ H s):∀(d:PyData)(v:V)(u:Ξ),Rep H d v->RelV v u->∃as,Reads s.heap u d as
 |.none,v,u,h,r=>by cases(show v=.non from h);cases(show u=Ξ.none from r);exact⟨_,.none⟩| .bool b,v,u,h,r=>by cases(show v=.bl b from h);cases(show u=Ξ.bool b from r);exact⟨_,.bool b⟩| .int i,v,u,h,r=>by cases(show v=.int i from h);let⟨t,rfl⟩:=(show ∃t,u=Ξ.int i t from r);exact⟨_,.int i t⟩| .str x,v,u,h,r=>by cases(show v=.str x from h);let⟨t,rfl⟩:=(show ∃t,u=Ξ.str x t from r);exact⟨_,.str x t⟩| .list ds,v,u,h,r=>by let⟨a,vs,rfl,ha,hr⟩:=h;cases(show u=Ξ.ref a from r);let⟨its,n,rv,e,_⟩:=I.lst ha;let⟨as,q⟩:=RepAll.reads I ds vs its hr rv;exact⟨_,.list e rfl rfl q⟩| .tuple ds,v,u,h,r=>by let⟨a,vs,rfl,ha,hr⟩:=h;cases(show u=Ξ.ref a from r);let⟨its,rv,⟨o,e1,e2,n,e3⟩,_⟩:=I.tuple (SqT.of (K:=X.K) ha);let⟨as,q⟩:=RepAll.reads I ds vs its hr rv;exact⟨_,.tuple e1 e2 e3 q⟩|.dict _,_,_,h,_=>False.elim h
theorem RepAll.reads{X:Cx}{pins:List (Addr×Obj)}{σ:St}{H:Hp}{s:Β}(I:Inv X pins σ H s):∀(ds:List PyData)(vs:List V)(us:List Ξ),RepAll H ds vs->Vals vs us->∃as,ReadsAll s.heap us ds as
 | [],vs,us,h,r=>by cases(show vs=[] from h);cases r;exact⟨_,.nil⟩| d::ds,vs,us,h,r=>by let⟨v,vr,rfl,h1,h2⟩:=h;cases r with| cons r1 r2=>let⟨as,q1⟩:=Rep.reads I d v _ h1 r1;let⟨bs,q2⟩:=RepAll.reads I ds vr _ h2 r2;exact⟨_,.cons q1 q2⟩
end
def eqv_int(i j):PyData.eqv (.int i) (.int j)=(i==j):=by simp[PyData.eqv]
section
variable{X:Cx}
abbrev rEqD(g:Bool->Bool):R2:=λx y H Q=>∃a b,Rep H a x/\Rep H b y/\a.canLay0=Γ/\b.canLay0=Γ/\min a.depth b.depth<=60/\Q (.bl (g (PyData.eqv a b))) H
def ztc(m:X.A.units+64<cLine):OpR X (compareOp .Eq) (rEqD id):=by intro a s n H x y v u Q I b c h;let⟨d,e,f,g,i,j,o,q⟩:=h;let⟨p,k⟩:=Rep.reads I d x v f b;let⟨r,l⟩:=Rep.reads I e y u g c;exact SeqAt.compareEq_reads k l i j (by lia) (zav I q rfl)
def zs9(m:X.A.units+64<cLine):OpR X (compareOp .NotEq) (rEqD not):=by intro a s n H x y v u Q I b c h;let⟨d,e,f,g,i,j,o,q⟩:=h;let⟨p,k⟩:=Rep.reads I d x v f b;let⟨r,l⟩:=Rep.reads I e y u g c;exact SeqAt.compareNe_reads k l i j (by lia) (zav I q rfl)
abbrev zdJ(H:Hp):V->Option String
 |.non=>Φ "NoneType"|.bl _=>Φ "bool"|.int _=>Φ "int"|.str _=>Φ "str"
 |.ref a=>match H a with
  |some (.lst _)=>Φ "list"|some (.frz _ (.lst _))=>Φ "list"|some (.tup _)=>Φ "tuple"|some (.dK _)=>Φ "dict"|some (.dT _)=>Φ "dict"|_=>Ψ
 |_=>Ψ
def zj4{K}(h:zdJ H x=Φ a):TyOf K H x (.type a):=by
 cases x with
 |non=>cases h;exact .non|bl b=>cases h;exact .bl b|int i=>cases h;exact .int i|str y=>cases h;exact .str y|byt _=>exact nS h
 |flt _=>exact nS h
 |ty _=>exact nS h
 |ref p=>
  unfold zdJ at h;cases e:H p with
  |none=>simp[e]at h| some o=>
   cases o with
   |lst d=>simp[e]at h;subst h;exact .lst e|tup d=>simp[e]at h;subst h;exact .tup e|dK c=>simp[e]at h;subst h;exact .dK e|dT c=>simp[e]at h;subst h;exact .dT e| frz f q=>cases q with|lst d=>simp[e]at h;subst h;exact .frz e|_=>simp[e]at h
   |_=>simp[e]at h
abbrev subT(a b:String):Bool:=a==b||(a=="bool"&&b=="int")
def zqX(K)(c:a∈["NoneType","bool","int","str","list","tuple","dict"])(d:b∈["bool","int","str","list","tuple","dict"]):kitOne K (.type a) (.type b)=Φ (subT a b):=by simp![mem_cons,not_mem_nil,or_false]at c d;rcases c with rfl|rfl|rfl|rfl|rfl|rfl|rfl<;>rcases d with rfl|rfl|rfl|rfl|rfl|rfl<;>rfl
def zi9(h:zdJ H x=Φ a):a∈["NoneType","bool","int","str","list","tuple","dict"]:=by
 cases x with
 |non=>cases h;simp|bl b=>cases h;simp|int i=>cases h;simp|str y=>cases h;simp|byt _=>exact nS h
 |flt _=>exact nS h
 |ty _=>exact nS h
 |ref p=>unfold zdJ at h;simp only at h;split at h<;>first|(cases h;simp)|exact nS h
def zh5:zbn X (.builtin "isinstance") (λxs H Q=>∃x c a,xs=[x,.ty c]/\zdJ H x=Φ a/\c∈["bool","int","str","list","tuple","dict"]/\Q (.bl (subT a c)) H):=by intro b s k H xs l Q I r h;let⟨x,c,a,rfl,d,e,q⟩:=h;let⟨u,f,rfl,g,i⟩:=zpk r;cases(show f=Ξ.type c from i);exact zlB I g (zj4 d) (zqX X.K (zi9 d) e) λj=>⟨.bl (subT a c),H,I.tok j,rfl,q⟩
end
section
variable{X:Cx}(K:Frag)(hK:X.K=K)
include hK
end
end L2
namespace TM
structure Good(m:Nat)(wo:Option Int)(s:Int)(n:Nat)(p:List Int):Prop where
 len:p.length=n
 head:p.head?=Φ s
 nd:p.Nodup
 rng:∀h∈p,0<=h/\h<m/\wo≠Φ h
end TM
namespace L2
open PySem PySem.Spec PyProof.Rows
def zpb:bootBuiltins "len"=Φ (.builtin "len"):=by decide +kernel
def zt4:bootBuiltins "abs"=Φ (.builtin "abs"):=by decide +kernel
def zt2:bootBuiltins "max"=Φ (.builtin "max"):=by decide +kernel
def zt3:bootBuiltins "all"=Φ (.builtin "all"):=by decide +kernel
def zf6:bootBuiltins "isinstance"=Φ (.builtin "isinstance"):=by decide +kernel
def zpc:bootBuiltins "int"=Φ (.type "int"):=by decide +kernel
def zrv:bootBuiltins "bool"=Φ (.type "bool"):=by decide +kernel
def zmn:bootBuiltins "list"=Φ (.type "list"):=by decide +kernel
def zi3:bootBuiltins "tuple"=Φ (.type "tuple"):=by decide +kernel
def zpa:bootBuiltins "set"=Φ (.type "set"):=by decide +kernel
def zo8{K}{st}(n)(r:ps.length=n+ds.length)(F:FunV K x c st (.ref d) f fd)(e:K.lookup d=Φ ⟨t,u,.seq items v,xs⟩)(h:∀(kV a g:Ξ)(i:Option Addr)(b ct:Ξ)(us:List Ξ),us.length=n->∃k,bindArgs (fnOf x c (zaq st) (zaj st) (zaa st) (.ref d) kV a g i b ct) ⟨us,[]⟩=seqItems? (.ref d)>>=k/\k (Φ items)=pure (ps.zip (us++ds))):
  Binds K fd ps ds:=by
 let⟨w,y,kV,a,g,i,b,ct,j,rfl,lk,l⟩:=F.ex;intro s us m o;let⟨k,p,q⟩:=h kV a g i b ct us (by rw[length_append]at o;lia);exact BindsTo.of_defaults (T:=d) rfl (m _ _ e) rfl p q
end L2
namespace R
@[reducible]def K3:=Int×List Int×Int
abbrev lexZ:List Int->List Int->Bool
 | [],[]=>Δ| [],_::_=>Γ|_::_,[]=>Δ|x::a,y::b=>if x=y then lexZ a b else decide (x<y)
def zca(x y)(xs ys):lexZ (x::xs) (y::ys)=if x=y then lexZ xs ys else decide (x<y):=rfl
def zdd:∀l:List Int,lexZ l l=Δ
 | []=>rfl|x::l=>by rw[zca,if_pos rfl];exact zdd l
def zgF:∀{a b c:List Int},lexZ a b=Γ->lexZ b c=Γ->lexZ a c=Γ
 | [],[],c,h,k=>by exact nB h| [],y::b,[],h,k=>by exact nB k| [],y::b,z::c,h,k=>rfl|x::a,[],c,h,k=>by exact nB h|x::a,y::b,[],h,k=>by exact nB k| x::a,y::b,z::c,h,k=>by rw[zca]at h k⊢;split at h;rename_i e;split at k;rename_i d;rw[if_pos (e.trans d)];exact zgF h k;rename_i d;have k:=of_decide_eq_true k;rw[if_neg (by lia)];exact decide_eq_true (by lia);rename_i e;have h:=of_decide_eq_true h;split at k;rename_i d;rw[if_neg (by lia)];exact decide_eq_true (by lia);rename_i d;have k:=of_decide_eq_true k;rw[if_neg (by lia)];exact decide_eq_true (by lia)
def zgG:∀{a b:List Int},a≠b->lexZ a b=Γ\/lexZ b a=Γ
 | [],[],h=>absurd rfl h| [],y::b,_=>.inl rfl|x::a,[],_=>.inr rfl| x::a,y::b,h=>by rw[zca,zca];by_cases e:x=y;subst e;rw[if_pos rfl,if_pos rfl];exact zgG λz=>h (by rw[z]);rw[if_neg e,if_neg (Ne.symm e)];rcases Int.lt_or_gt_of_ne e with z|z;exact .inl (decide_eq_true z);exact .inr (decide_eq_true z)
abbrev Lt3(a b:K3):Prop:=a.1<b.1\/(a.1=b.1/\(lexZ a.2.1 b.2.1=Γ\/(a.2.1=b.2.1/\a.2.2<b.2.2)))
noncomputable instance(a b:K3):Decidable (Lt3 a b):=by unfold Lt3;infer_instance
def zco(a):¬Lt3 a a:=by unfold Lt3;rw[zdd];simp
def zd4(h:Lt3 a b)(k:Lt3 b c):Lt3 a c:=by unfold Lt3 at *;rcases h with h|⟨g,e⟩;rcases k with k|⟨f,d⟩;exact .inl (by lia);exact .inl (by lia);rcases k with k|⟨f,d⟩;exact .inl (by lia);refine .inr ⟨g.trans f,?_⟩;rcases e with e|⟨e,j⟩;rcases d with d|⟨d,i⟩;exact .inl (zgF e d);exact .inl (d▸e);rcases d with d|⟨d,i⟩;exact .inl (e▸d);exact .inr ⟨e.trans d,by lia⟩
def zgD(h:a≠b):Lt3 a b\/Lt3 b a:=by unfold Lt3;let⟨e,f,g⟩:=a;let⟨b1,b2,b3⟩:=b;dsimp only;by_cases c:e=b1;by_cases d:f=b2;have e3:g≠b3:=λz=>h (by rw[c,d,z]);rcases Int.lt_or_gt_of_ne e3 with z|z;exact .inl (.inr ⟨c,.inr ⟨d,z⟩⟩);exact .inr (.inr ⟨c.symm,.inr ⟨d.symm,z⟩⟩);rcases zgG d with z|z;exact .inl (.inr ⟨c,.inl z⟩);exact .inr (.inr ⟨c.symm,.inl z⟩);rcases Int.lt_or_gt_of_ne c with z|z;exact .inl (.inl z);exact .inr (.inl z)
abbrev ins3(x:K3):List K3->List K3
 | []=>[x]|y::l=>if Lt3 x y then x::y::l else y::ins3 x l
abbrev zjf:List K3->List K3
 | []=>[]|x::l=>ins3 x (zjf l)
def zef(x):∀l:List K3,(ins3 x l).Perm (x::l)
 | []=>List.Perm.refl _| y::l=>by unfold ins3;split;exact List.Perm.refl _;exact((zef x l).cons y).trans (List.Perm.swap ..)
def zch:∀l:List K3,(zjf l).Perm l
 | []=>List.Perm.refl _|x::l=>(zef x _).trans ((zch l).cons x)
def zee(x):∀{l:List K3},x∉l->l.Pairwise Lt3->(ins3 x l).Pairwise Lt3
 | [],_,_=>by simp[ins3]| y::l,g,h=>by have d:=ϥ.mp h;unfold ins3;split;rename_i c;exact ϥ.mpr ⟨λz f=>by rcases mem_cons.mp f with e|e;rw[e];exact c;exact zd4 c (d.1 z e),h⟩;rename_i c;refine ϥ.mpr ⟨λz f=>?_,zee x (λm=>g (Κ _ m)) d.2⟩;rcases mem_cons.mp ((zef x l).mem_iff.mp f) with e|e;rw[e];rcases zgD (a:=y) (b:=x) (λz=>g (by rw[z];exact Μ)) with q|q;exact q;exact absurd q c;exact d.1 z e
def zb4:∀{l:List K3},l.Nodup->(zjf l).Pairwise Lt3
 | [],_=>Pairwise.nil| x::l,h=>by have a:=nodup_cons.mp h;exact zee x (λm=>a.1 ((zch l).mem_iff.mp m)) (zb4 a.2)
def zcC:∀{a b:List K3},a.Perm b->a.Pairwise Lt3->b.Pairwise Lt3->a=b
 | [],b,p,_,_=>(List.nil_perm.mp p).symm|x::a,[],p,_,_=>absurd (List.perm_nil.mp p) (by simp)| x::a,y::b,p,h,i=>by
  have c:=ϥ.mp h;have d:=ϥ.mp i;have e:x=y:=by rcases mem_cons.mp (p.mem_iff.mp Μ) with f|f;exact f;rcases mem_cons.mp (p.mem_iff.mpr Μ) with g|g;exact g.symm;exact absurd (zd4 (d.1 x f) (c.1 y g)) (zco y)
  subst e;rw[zcC (List.Perm.cons_inv p) c.2 d.2]
def zgV{b:Type}{p q}:∀{l:List b},(∀x∈l,p x=Γ->q x=Γ)->(l.filter p).length<=(l.filter q).length
 | [],_=>le_refl _| x::l,h=>by have a:=zgV (l:=l) λy c=>h y (Κ _ c);rw[List.filter_cons,List.filter_cons];cases e:p x with|true=>rw[h x Μ e];simp;exact a| false=>cases q x with|true=>simp;lia|false=>simpa using a
def zgU{c:Type}{p q}:∀{l:List c}{a:c},(∀x∈l,p x=Γ->q x=Γ)->a∈l->p a=Δ->q a=Γ->(l.filter p).length<(l.filter q).length
 | [],_,_,h,_,_=>by cases h| x::l,a,h,i,d,f=>by rw[List.filter_cons,List.filter_cons];rcases mem_cons.mp i with e|e;subst e;have:=zgV (l:=l) λy b=>h y (Κ _ b);rw[d,f];simp;lia;have g:=zgU (l:=l) (λy b=>h y (Κ _ b)) e d f;cases j:p x with|true=>rw[h x Μ j];simp;exact g| false=>cases q x with|true=>simp;lia|false=>simpa using g
end R
namespace R
open PySem PySem.Spec PyProof.Rows L2
section
variable{prog:ϊ}{w:ό}{A:ϐ}{E:Ξ->Β->Prop}{s:Β}
abbrev IsTri(prog:ϊ)(w:ό)(h:Heap)(k:K3)(a:Addr):Prop:=∃o t u b n,h.get? a=Φ o/\o.cls=.type "tuple"/\o.data=.seq #[.int k.1 t,.ref b,.int k.2.2 u] n/\IsTupleKey (zar prog w) h (k.2.1.map Sum.inl) b
def zhS{x y:List Int}(h:(x.map Sum.inl:List Key)=y.map Sum.inl):x=y:=(List.map_inj_right (λa b e=>Sum.inl.inj e)).mp h
def IsTri.typeIs(x:IsTri prog w s.heap k a):s.TypeIs (.ref a) "tuple":=by let⟨o,_,_,_,_,b,c,_⟩:=x;exact⟨o,b,c⟩
def IsTri.inj(g:IsTri prog w h x a)(i:IsTri prog w h y a):x=y:=by let⟨o,t,u,b,n,j,_,k,l⟩:=g;let⟨m,p,q,r,v,e,_,c,f⟩:=i;obtain rfl:o=m:=Option.some.inj (j.symm.trans e);rw[k]at c;injection c with d _;have d:=congrArg Array.toList d;simp![List.cons.injEq,Ξ.int.injEq,Ξ.ref.injEq,and_true]at d;let⟨⟨z,_⟩,rfl,e3,_⟩:=d;have B:=zhS (l.inj f);let⟨C,G,H⟩:=x;let⟨I,J,L⟩:=y;simp_all
def IsTri.keeps(x:IsTri prog w h k a)(g:h.get? d=Φ o)(hd:o.data=.dict es ep)(hs:Heap.SameBut d h h'):IsTri prog w h' k a:=by
 let⟨i,t,u,b,n,e,j,c,l⟩:=x;have f:a≠d:=by rintro rfl;obtain rfl:i=o:=Option.some.inj (e.symm.trans g);rw[hd]at c;exact by cases c
 exact⟨i,t,u,b,n,(hs.2 a f).trans e,j,c,l.keeps g hd hs⟩
abbrev zdL(prog:ϊ)(w:ό)(k:K3):Int:=reduceHash (Builtin.Tuple.tupleHashOf [hashInt k.1,tupleKeyHash (zar prog w) (k.2.1.map Sum.inl),hashInt k.2.2])
def zdu(r:A.units+4<cLine)(l:IsTri prog w s.heap k a)(h:Q (zdL prog w k) {s with toks:=s.toks+(k.2.1.length+4)}):
  wpAny (model prog w) A (pyHash (.ref a)) Q E s:=by
 have i:=l.typeIs;let⟨o,t,u,b,n,m,_,p,q⟩:=l;unfold pyHash
 first|unfold pyHashByItsType|skip
 first|refine Θ (wpAny_cRoomFor_or (.inr (by lia)) ?_)|skip
 refine Θ (wpAny_specialOf i F.slot_tuple_hash.lookup ?_);show wpAny _ _ (if(Φ (Ξ.builtin "tuple.__hash__")==Φ Ξ.none)=Γ then _ else _) Q E s;rw[if_neg (by rw[beq_builtin_none];exact Ο)];refine Θ (wpAny_specialOf i F.slot_tuple_hash.lookup ?_);show wpAny _ _ (callSpecialIfBoundUnlessNone? (.ref a) "__hash__" _>>=_) Q E s;refine Θ (wpAny_callSpecialIfBoundUnlessNone?_slot i F.slot_tuple_hash (ϔ F.slot_tuple_hash i F.entry_tuple_hash ?_ (F.args_tuple_hash_1 _)));show wpAny _ _ (Builtin.Tuple.tupleItemsOf (.ref a)>>=_) _ _ s;refine Θ (wpAny_tupleItemsOf m p ?_);refine Θ ?_;rw[<-Array.forIn_toList];refine wpAny_forIn_list _
  (λc (g:Array Int) f=>(c=[.int k.1 t,.ref b,.int k.2.2 u]/\g.toList=[]/\f=s)\/(c=[.ref b,.int k.2.2 u]/\g.toList=[hashInt k.1]/\f={s with toks:=s.toks+1})
   \/(c=[.int k.2.2 u]/\g.toList=[hashInt k.1,tupleKeyHash (zar prog w) (k.2.1.map Sum.inl)]/\f={s with toks:=s.toks+(k.2.1.length+2)})
   \/(c=[]/\g.toList=[hashInt k.1,tupleKeyHash (zar prog w) (k.2.1.map Sum.inl),hashInt k.2.2]/\f={s with toks:=s.toks+(k.2.1.length+3)}))
  _ ?_ ?_ _ _ (.inl ⟨rfl,rfl,rfl⟩)
 rintro x c g f (⟨e,d,rfl⟩|⟨e,d,rfl⟩|⟨e,d,rfl⟩|⟨e,d,rfl⟩);cases e;refine Θ (wpAny_pyHash_int ?_);exact Ω (.inr (.inl ⟨rfl,by simp[d],rfl⟩));cases e;refine Θ (wpAny_pyHash_tuple (knd:=zar prog w) (ks:=k.2.1.map Sum.inl) ?_ q ?_);show A.units+1<cLine;lia;exact Ω (.inr (.inr (.inl ⟨rfl,by simp[d],by simp![length_map];congr 1;lia⟩)));cases e;refine Θ (wpAny_pyHash_int ?_);exact Ω (.inr (.inr (.inr ⟨rfl,by simp[d],by simp[Nat.add_assoc]⟩)));cases e;rintro g f (⟨e,d,rfl⟩|⟨e,d,rfl⟩|⟨e,d,rfl⟩|⟨e,d,rfl⟩);cases e;cases e;cases e;show wpAny _ _ (retInt (Builtin.Tuple.tupleHashOf g.toList)) _ _ _;rw[d];refine wpAny_ret_mkInt ?_;show wpAny _ _ (if(decide (-(2:Int)^63<=Builtin.Tuple.tupleHashOf [hashInt k.1,tupleKeyHash (zar prog w) (k.2.1.map Sum.inl),hashInt k.2.2])&&decide (Builtin.Tuple.tupleHashOf [hashInt k.1,tupleKeyHash (zar prog w) (k.2.1.map Sum.inl),hashInt k.2.2]<2^63))=Γ then _ else _) Q E _;unfold zdL reduceHash at h;by_cases j:(decide (-(2:Int)^63<=Builtin.Tuple.tupleHashOf [hashInt k.1,tupleKeyHash (zar prog w) (k.2.1.map Sum.inl),hashInt k.2.2])&&decide (Builtin.Tuple.tupleHashOf [hashInt k.1,tupleKeyHash (zar prog w) (k.2.1.map Sum.inl),hashInt k.2.2]<2^63))=Γ;rw[if_pos j];rw[if_pos j]at h;exact Ω (by simpa[Nat.add_assoc]using h);rw[if_neg j];rw[if_neg j]at h;exact Θ (wpAny_rule (Ω (by simpa[Nat.add_assoc]using h)))
def zhl(O:A.units<cLine)(Q:IsTri prog w s.heap x a)(M:IsTri prog w s.heap y b)(h:P (.done (.ret (.bool (decide (x=y))))) s):
  wpAny (model prog w) A (Builtin.«tuple.__eq__» ⟨[.ref a,.ref b],[]⟩) P E s:=by
 have m:=M.typeIs;let⟨Y,T,n,b1,na,o,_,t,u⟩:=Q;let⟨ob,U,v,b2,nb,B,_,C,G⟩:=M;let⟨g,H,i⟩:=x;let⟨j,I,k⟩:=y;show wpAny _ _ (isInstance (.ref b) (.type "tuple")>>=_) _ _ s;refine Θ (wpAny_isInstance m isSubtype_tuple_tuple ?_);simp![ϡ,Ρ,if_false];refine Θ (wpAny_tupleItemsOf o t ?_);refine Θ (wpAny_tupleItemsOf B C ?_);refine Θ ?_;refine wpAny_forIn_list _
  (λc r J=>r.1=Ψ/\J=s/\(c=[(.int g T,.int j U),(.ref b1,.ref b2),(.int i n,.int k v)]\/(c=[(.ref b1,.ref b2),(.int i n,.int k v)]/\g=j)\/(c=[(.int i n,.int k v)]/\g=j/\H=I)\/(c=[]/\g=j/\H=I/\i=k)))
  _ ?_ ?_ _ _ ⟨rfl,rfl,.inl rfl⟩
 rintro⟨p,q⟩ c r J ⟨L,rfl,(e|⟨e,f⟩|⟨e,f,l⟩|⟨e,f,l,N⟩)⟩;cases e;refine Θ (wpAny_eqBool_int ?_);by_cases d:g=j;rw[show(g==j)=Γ by simp[d]];simp![ϡ,Ρ,if_false];exact Ω ⟨rfl,rfl,.inr (.inl ⟨trivial,d⟩)⟩;rw[show(g==j)=Δ by simp[d]];simp![Bool.not_false,if_true];rw[decide_eq_false (by simp[d])]at h;exact Θ (Ω (Ω (Ω h)));cases e;refine Θ (wpAny_eqBool_tuple O u G ?_);by_cases d:H=I;rw[decide_eq_true (by rw[d])];simp![ϡ,Ρ,if_false];exact Ω ⟨rfl,rfl,.inr (.inr (.inl ⟨trivial,f,d⟩))⟩;rw[decide_eq_false (λz=>d (zhS z))];simp![Bool.not_false,if_true];rw[decide_eq_false (by simp[d])]at h;exact Θ (Ω (Ω (Ω h)));cases e;refine Θ (wpAny_eqBool_int ?_);by_cases d:i=k;rw[show(i==k)=Γ by simp[d]];simp![ϡ,Ρ,if_false];exact Ω ⟨rfl,rfl,.inr (.inr (.inr ⟨trivial,f,l,d⟩))⟩;rw[show(i==k)=Δ by simp[d]];simp![Bool.not_false,if_true];rw[decide_eq_false (by simp[d])]at h;exact Θ (Ω (Ω (Ω h)));cases e;rintro⟨r1,r2⟩ J ⟨L,rfl,(e|⟨e,f⟩|⟨e,f,l⟩|⟨e,f,l,N⟩)⟩;cases e;cases e;cases e;simp only at L;subst L;refine Ω ?_;rw[decide_eq_true (by rw[f,l,N])]at h;exact h
def zdv(g:A.units+4<cLine)(d:IsTri prog w s.heap x a)(f:IsTri prog w s.heap y b)(h:Q (decide (x=y)) s):
  wpAny (model prog w) A (eqBool (.ref a) (.ref b)) Q E s:=by
 unfold eqBool
 try with_reducible refine ϝ ?_
 show wpAny _ _ (if(Ξ.ref a==Ξ.ref b)=Γ then _ else _) Q E s;by_cases c:(Ξ.ref a==Ξ.ref b)=Γ;rw[if_pos c];have e:a=b:=by have:=eq_of_beq c;injection this
 subst e;obtain rfl:=d.inj f;exact Θ (wpAny_rule (Ω (by simpa using h)))
 rw[if_neg c];exact Θ (wpAny_richCompare_same_room (op:=.Eq) d.typeIs f.typeIs F.slot_tuple_eq
  (ϔ F.slot_tuple_eq d.typeIs F.entry_tuple_eq (zhl (by show A.units+1<cLine;lia) d f ⟨_,rfl,(λe=>by cases e),ϕ h⟩) (F.args_tuple_eq_2 _ _)) (by lia))
def zsM(i:IsTupleKey (zar prog w) s.heap ks a)(h:Q Γ s):wpAny (model prog w) A (eqIsQuiet 7 (.ref a)) Q E s:=by have j:=i.typeIs;let⟨o,d,n,k,_,l,m⟩:=i;unfold eqIsQuiet;refine Θ (wpAny_specialOf j F.slot_tuple_eq.lookup ?_);show wpAny _ _ (isInstance (.ref a) (.type "tuple")>>=_) _ _ s;refine Θ (wpAny_isInstance j isSubtype_tuple_tuple ?_);simp![ϡ,Ρ,if_false];refine Θ (wpAny_seqItems k l ?_);refine Θ ?_;show wpAny _ _ (forIn d _ _) _ _ s;rw[<-Array.forIn_toList];refine wpAny_forIn_list _ (λb r e=>r.1=Ψ/\e=s/\∀v∈b,carriedByValue v=Γ) _ ?_ ?_ _ _ ⟨rfl,rfl,m.byValue⟩;rintro v b r e ⟨f,rfl,c⟩;rw[eqIsQuiet_byValue _ (c v Μ)];refine Θ (Ω ?_);simp![ϡ,Ρ,if_false];exact Ω ⟨rfl,rfl,λu g=>c u (Κ _ g)⟩;rintro⟨p,q⟩ e ⟨f,rfl,_⟩;simp only at f;subst f;exact Ω h
def zcB(j:IsTri prog w s.heap k a)(h:Q Γ s):wpAny (model prog w) A (eqIsQuiet 8 (.ref a)) Q E s:=by have l:=j.typeIs;let⟨o,t,u,b,n,m,_,p,q⟩:=j;unfold eqIsQuiet;refine Θ (wpAny_specialOf l F.slot_tuple_eq.lookup ?_);show wpAny _ _ (isInstance (.ref a) (.type "tuple")>>=_) _ _ s;refine Θ (wpAny_isInstance l isSubtype_tuple_tuple ?_);simp![ϡ,Ρ,if_false];refine Θ (wpAny_seqItems m p ?_);refine Θ ?_;show wpAny _ _ (forIn #[Ξ.int k.1 t,.ref b,.int k.2.2 u] _ _) _ _ s;rw[<-Array.forIn_toList];refine wpAny_forIn_list _ (λd r g=>r.1=Ψ/\g=s/\∀v∈d,carriedByValue v=Γ\/v=.ref b) _ ?_ ?_ _ _ ⟨rfl,rfl,λv f=>by simp![mem_cons,not_mem_nil,or_false]at f;rcases f with rfl|rfl|rfl;exact .inl rfl;exact .inr rfl;exact .inl rfl⟩;rintro v d r g ⟨i,rfl,c⟩;rcases c v Μ with f|rfl;rw[eqIsQuiet_byValue _ f];refine Θ (Ω ?_);simp![ϡ,Ρ,if_false];exact Ω ⟨rfl,rfl,λu e=>c u (Κ _ e)⟩;refine Θ (zsM q ?_);simp![ϡ,Ρ,if_false];exact Ω ⟨rfl,rfl,λu e=>c u (Κ _ e)⟩;rintro⟨x,y⟩ g ⟨i,rfl,_⟩;simp only at i;subst i;exact Ω h
end
abbrev zb2(prog:ϊ)(w:ό):HeapKind prog w K3 where
 is:=IsTri prog w
 hash:=zdL prog w
 draws:=λk=>k.2.1.length+4
 room:=λA=>A.units+4<cLine
 inj:=λa b=>a.inj b
 keeps:=λx e f g=>x.keeps e f g
 pyHash:=λc d h=>zdu c d h
 eqBool:=λc a b h=>zdv c a b h
 quiet:=λd h=>zcB d h
abbrev znT(k:K3):Int:=reduceHash (Builtin.Tuple.tupleHashOf [hashInt k.1,reduceHash (Builtin.Tuple.tupleHashOf (k.2.1.map hashInt)),hashInt k.2.2])
def znS(k):(zb2 P w).hash k=znT k:=by show zdL P w k=znT k;unfold zdL znT tupleKeyHash;rw[map_map];rfl
abbrev P3(p:K3×Addr×V)(q:K3×Addr×Ξ):Prop:=p.1=q.1/\p.2.1=q.2.1/\RelV p.2.2 q.2.2
abbrev ent3(x:K3×Addr×Ξ):DictEntry:=⟨znT x.1,.ref x.2.1,x.2.2⟩
def zhZ(x):entryOfKey (zb2 P w) x=ent3 x:=by unfold entryOfKey ent3;rw[znS]
abbrev TriO(a:Addr)(b:List (K3×Addr×V))(h:Heap):Prop:=b.length<=sizeLine/\(a==sysModules)=Δ/\∃c,Paired P3 b c/\∃o d e,h.get? a=Φ o/\o.ExactDict/\o.data=.dict d e/\d.toList=c.map ent3/\(c.map (·.1)).Nodup
abbrev Key3(H:Hp)(k:K3)(c:Addr):Prop:=∃b,H c=Φ (.tup [.int k.1,.ref b,.int k.2.2])/\H b=Φ (.tup (k.2.1.map V.int))
abbrev TriK(H:Hp)(a:List (K3×Addr×V)):Prop:=∀x∈a,Key3 H x.1 x.2.1
def Key3.up(h:Key3 H k c)(a:∀b xs,H b=Φ (.tup xs)->H' b=Φ (.tup xs)):Key3 H' k c:=let ⟨b,d,e⟩:=h;⟨b,a _ _ d,a _ _ e⟩
def TriO.stay(x:TriO a b h)(k:∀o,h.get? a=Φ o->h'.get? a=Φ o):TriO a b h':=by let⟨z,y,d,r,o,f,g,e,c⟩:=x;exact⟨z,y,d,r,o,f,g,k _ e,c⟩
def TriO.objOk(x:TriO a b h):ObjOk P w H h a (.ext (TriO a b)):=by refine⟨x,?_,λc d p k=>p.stay k⟩;let⟨_,_,_,_,o,_,_,e,_⟩:=x;exact⟨o,e⟩
def zoL:∀{a:List (K3×Addr×V)}{xs:List (K3×Addr×Ξ)},Paired P3 a xs->xs.length=a.length
 |_,_,.nil=>rfl|_,_,.cons _ t=>by simp[zoL t]
def zk7:∀{a:List (K3×Addr×V)}{xs:List (K3×Addr×Ξ)},Paired P3 a xs->xs.map (·.1)=a.map (·.1)
 |_,_,.nil=>rfl|_,_,.cons h t=>by rw[Ν,Ν,zk7 t,h.1]
section
variable{P:ϊ}{w:ό}{H:Hp}{h:Heap}{a c:Addr}{kxs:List (K3×Addr×V)}
def zfN(ok:HOk P w H h)(e:Key3 H k c):IsTri P w h k c:=by let⟨b,f,g⟩:=e;let⟨_,i,d,o,j,l,n,m⟩:=(show ObjOk P w H h c (.tup _) from ok c _ f);cases d with| @cons _ v _ x p d=>cases d with| @cons _ q _ y r d=>cases d with| @cons _ z _ A s d=>cases d;let⟨t,rfl⟩:=p;cases(show q=Ξ.ref b from r);let⟨u,rfl⟩:=s;refine⟨o,t,u,b,n,j,l,m,?_⟩;have:=zgJ (ks:=k.2.1.map Sum.inl) ok (a:=b) (by rw[map_map];exact g);exact this
def zrW(ok:HOk P w H h)(e:H a=Φ (.ext (TriO a kxs)))(tk:TriK H kxs):kxs.length<=sizeLine/\(a==sysModules)=Δ/\∃xs,Paired P3 kxs xs/\h.DictOfH (zb2 P w) a xs:=by
 let⟨⟨z,y,xs,r,o,g,i,j,b,k,n,s⟩,_,_⟩:=(show ObjOk P w H h a (.ext _) from ok a _ e);refine⟨z,y,xs,r,o,g,i,j,b,k,?_,?_,s⟩;rw[n];exact Τ λx _=>(zhZ x).symm;have d:∀{l:List (K3×Addr×V)}{m:List (K3×Addr×Ξ)},Paired P3 l m->TriK H l->∀x∈m,(zb2 P w).is h x.1 x.2.1:=by
  intro l m q;induction q with
  |nil=>intro _ x b;exact by cases b
  | @cons p q A B f t u=>intro tk x b;rcases mem_cons.mp b with e|b;subst e;rw[<-f.1,<-f.2.1];exact zfN ok (tk p Μ);exact u (λy v=>tk y (Κ _ v)) x b
 exact d r tk
end
abbrev put3(a:List (K3×Addr×V))(k:K3)(c:Addr)(v:V):List (K3×Addr×V):=if k∈a.map (·.1) then a.map (λx=>if x.1=k then(x.1,x.2.1,v) else x) else a++[(k,c,v)]
def zhi{k:K3}:(atKey xs k).isSome=decide (k∈xs.map (·.1)):=by unfold atKey;rw[Option.isSome_map];apply Bool.eq_iff_iff.mpr;rw[List.find?_isSome,decide_eq_true_eq,mem_map];constructor;rintro⟨x,a,e⟩;exact⟨x,a,by simpa using e⟩;rintro⟨x,a,e⟩;exact⟨x,a,by simpa using e⟩
def zs6(g:RelV v r)(h:Paired P3 d xs):Paired P3 (put3 d k c v) (storedH xs k c r):=by
 unfold put3 storedH;rw[zhi,zk7 h];by_cases b:k∈d.map (·.1);rw[if_pos b,if_pos (by simpa using b)];clear b;induction h with|nil=>exact .nil| @cons p q i j a t f=>rw[Ν,Ν];refine .cons ?_ f;unfold putAt;by_cases e:p.1=k;rw[if_pos e,if_pos (by rw[<-a.1];exact e)];exact⟨a.1,a.2.1,g⟩;rw[if_neg e,if_neg (by rw[<-a.1];exact e)];exact a
 rw[if_neg b,if_neg (by simpa using b)];clear b;induction h with|nil=>exact .cons ⟨rfl,rfl,g⟩ .nil|cons a t f=>exact .cons a f
def zna(a)(k)(c)(v):(put3 a k c v).length<=a.length+1:=by unfold put3;split;rw[length_map];lia;simp
section
variable{X:Cx}{pins:List (Addr×Obj)}{σ:L2.St}{H:Hp}{s:Β}{a c:Addr}{kxs:List (K3×Addr×V)}{k:K3}{v:V}{r:Ξ}{A:ϐ}{E:Ξ->Β->Prop}
def zjK(G:A.units+5<cLine)(I:Inv X pins σ H s)(e:H a=Φ (.ext (TriO a kxs)))(tk:TriK H kxs)(g:Key3 H k c)(J:kxs.length<sizeLine)(i:RelV v r)(h:∀s',Inv X pins σ (upd H a (.ext (TriO a (put3 kxs k c v)))) s'->Q () s'):wpAny (model X.prog X.w) A (setItem (.ref a) (.ref c) r) Q E s:=by
 let⟨z,j,l,b,m⟩:=zrW I.hok e tk;have n:l.length<=sizeLine:=by rw[zoL b];exact z
 have o:=zna kxs k c v;refine wpAny_setItem_heap (knd:=zb2 X.prog X.w) (hsz:=n) (show A.units+1+4<cLine by omega) (zfN I.hok g) m λL d p=>h _ ?_;let⟨q,t,u,f,w,y,B,_,C⟩:=d;refine zfY I (by rw[e];exact True.intro) p ⟨q,f⟩ (TriO.objOk ⟨by omega,j,_,zs6 i b,q,t,u,f,w,y,?_,C⟩);rw[B];exact Τ λx _=>zhZ x
def zns:PE X (.Dict [] [] pos) (λ_ H Q=>∀p,H p=Ψ->Q (.ref p) (upd H p (.ext (TriO p [])))):=λpins s σ H Q I h=>
 wpAny_Dict_empty ⟨.ref s.heap.objs.size,_,I.laid (a:=s.heap.objs.size) (o:=.ext (TriO s.heap.objs.size [])) (t':=s.toks) (λ_ _ q=>Λ _ q) (le_refl _)
  (TriO.objOk ⟨zero_le _,beq_eq_false_iff_ne.mpr (Ne.symm (ne_of_lt I.big)),[],.nil,_,#[],0,Ζ _ rfl,⟨rfl,rfl,rfl⟩,rfl,rfl,List.nodup_nil⟩),rfl,h _ (I.hok.fresh (le_refl _))⟩
end
end R
namespace R
abbrev zfm(a b:Int×Int):Bool:=decide (b.2<a.2\/(a.2=b.2/\a.1<=b.1))
abbrev zbi(rows:List (Int×Int)):List (Int×Int):=rows.mergeSort zfm
abbrev bump:List (Int×Int)->Int->List (Int×Int)
 | [],w=>[(w,1)]|(k,c)::r,w=>if k=w then(k,c+1)::r else(k,c)::bump r w
abbrev zah(kvs:List (Int×Int))(b:List (Option Int)):List (Int×Int):=b.foldl (λa w=>match w with|some x=>bump a x|none=>a) kvs
def zc6:∀(kvs:List (Int×Int))(w:Int),(bump kvs w).map (·.1)=if w∈kvs.map (·.1) then kvs.map (·.1) else kvs.map (·.1)++[w]
 | [],w=>by simp[bump]| (k,c)::r,w=>by unfold bump;by_cases e:k=w;subst e;simp;have a:=zc6 r w;rw[if_neg e];simp![Ν,mem_cons,a];by_cases h:w∈r.map (·.1);rw[if_pos h,if_pos (.inr h)];rw[if_neg h,if_neg (by rintro(z|z);exact e z.symm;exact h z)];rfl
def zjQ(h:(kvs.map (·.1)).Nodup):((bump kvs w).map (·.1)).Nodup:=by rw[zc6];split;exact h;rename_i n;rw[nodup_append];refine⟨h,by simp,?_⟩;intro a d b c;rw[mem_singleton]at c;subst c;intro z;subst z;exact n d
abbrev at0(kvs:List (Int×Int))(x:Int):Int:=match kvs.find? (λr=>r.1==x) with|some r=>r.2|none=>0
def zi5:∀(kvs:List (Int×Int))(w x:Int),at0 (bump kvs w) x=at0 kvs x+if x=w then 1 else 0
 | [],w,x=>by unfold bump at0;by_cases e:w=x;subst e;simp;have:¬x=w:=λz=>e z.symm;simp[e,this]| (k,c)::r,w,x=>by
  unfold bump;have a:=zi5 r w x;by_cases e:k=w;subst e;rw[if_pos rfl];by_cases z:k=x;subst z;simp[at0];have b:¬x=k:=λy=>z y.symm;simp[at0,z,b];rw[if_neg e];by_cases z:k=x;subst z;simp[at0,e];have d:at0 ((k,c)::bump r w) x=at0 (bump r w) x:=by simp[at0,z]
  have f:at0 ((k,c)::r) x=at0 r x:=by simp[at0,z]
  rw[d,f,a]
def zmq(b:(kvs.map (·.1)).Nodup)(h:(x,c)∈kvs):at0 kvs x=c:=by
 induction kvs with
 |nil=>cases h
 |cons a r f=>
  let⟨k,d⟩:=a;simp![Ν,nodup_cons]at b;rcases mem_cons.mp h with e|e;cases e;simp[at0];have:¬k=x:=λz=>b.1 (by rw[z];exact mem_map.mpr ⟨_,e,rfl⟩);have g:at0 ((k,d)::r) x=at0 r x:=by simp[at0,this]
  rw[g];exact f b.2 e
def zaR:∀(a:List (Option Int)){kvs:List (Int×Int)},(kvs.map (·.1)).Nodup->((zah kvs a).map (·.1)).Nodup
 | [],_,h=>h|some w::a,kvs,h=>zaR a (zjQ (w:=w) h)|none::a,kvs,h=>zaR a h
def zbQ:∀(a:List (Option Int))(kvs:List (Int×Int))(x:Int),at0 (zah kvs a) x=at0 kvs x+(a.count (Φ x):Nat)
 | [],kvs,x=>by simp[zah]| some w::a,kvs,x=>by show at0 (zah (bump kvs w) a) x=_;rw[zbQ a (bump kvs w) x,zi5,List.count_cons];by_cases e:x=w;subst e;simp;lia;have:¬(w=x):=λz=>e z.symm;simp[e,this]| none::a,kvs,x=>by show at0 (zah kvs a) x=_;rw[zbQ a kvs x,List.count_cons];simp
def za3:∀(a:List (Option Int))(kvs:List (Int×Int))(x:Int),x∈(zah kvs a).map (·.1)↔x∈kvs.map (·.1)\/Φ x∈a
 | [],kvs,x=>by simp[zah]| some w::a,kvs,x=>by show x∈(zah (bump kvs w) a).map (·.1)↔_;rw[za3 a (bump kvs w) x,zc6];by_cases h:w∈kvs.map (·.1);rw[if_pos h];constructor;rintro(z|z);exact .inl z;exact .inr (Κ _ z);rintro(z|z);exact .inl z;rcases mem_cons.mp z with y|y;cases y;exact .inl h;exact .inr y;rw[if_neg h];constructor;rintro(z|z);rcases mem_append.mp z with y|y;exact .inl y;rw[mem_singleton]at y;subst y;exact .inr Μ;exact .inr (Κ _ z);rintro(z|z);exact .inl (mem_append_left _ z);rcases mem_cons.mp z with y|y;cases y;exact .inl (mem_append_right _ (mem_singleton.mpr rfl));exact .inr y
 |none::a,kvs,x=>by show x∈(zah kvs a).map (·.1)↔_;rw[za3 a kvs x];simp
def counts_row:(x,c)∈zah [] a↔Φ x∈a/\c=(a.count (Φ x):Nat):=by
 have d:((zah [] a).map (·.1)).Nodup:=zaR a (by simp);have b:=zbQ a [] x;have g:at0 [] x=0:=rfl;rw[g,Int.zero_add]at b;constructor;intro h;have:=(za3 a [] x).mp (mem_map.mpr ⟨_,h,rfl⟩);refine⟨this.resolve_left (by simp),?_⟩;rw[<-b,zmq d h];rintro⟨h,rfl⟩;have:=(za3 a [] x).mpr (.inr h);let⟨⟨y,c⟩,f,rfl⟩:=mem_map.mp this;have e:=zmq d f;have:c=(a.count (Φ y):Nat):=by rw[<-b];exact e.symm
 rw[<-this];exact f
def ze0(b):(zah [] b).length<=b.length:=by
 have:∀(b:List (Option Int))(a:List (Int×Int)),(zah a b).length<=a.length+b.length:=by
  intro b;induction b with
  |nil=>intro a;simp[zah]| cons w b c=>
   intro a;cases w with
   |none=>have:=c a;show(zah a b).length<=_;simp;lia| some x=>
    have:=c (bump a x);have d:(bump a x).length<=a.length+1:=by have:=congrArg List.length (zc6 a x);simp![length_map]at this;rw[this];split<;>simp
    show(zah (bump a x) b).length<=_;simp;lia
 simpa using this b []
end R
namespace R
open PySem (Str PyData Operator CmpOp)
set_option genInjectivity true in
inductive D where
 |non|bl (b:Bool)|int (i:Int)|tup (ds:List D)|ref (l:Nat)
 |fix (ds:List D)
 |clo (kvs:List (K3×Option Int))
inductive MO where
 |lst (ds:List D)|dic (kvs:List (Int×D))|ins (c:Nat) (fs:List (Str×D))
 |d3 (kvs:List (K3×D))
structure St where
 frz:List MO
 new:List MO
 lk:List Nat
inductive Out(α:Type) where
 |ok (a:α) (S:St)
 |err (d:D) (S:St)
 |bad
abbrev Out.bind{b c:Type}(o:Out b)(f:b->St->Out c):Out c:=match o with|.ok a S=>f a S|.err d S=>.err d S|.bad=>.bad
abbrev lift{b:Type}(S:St):Option b->Out b
 |some a=>.ok a S|none=>.bad
namespace St
abbrev get(S:St)(l:Nat):Option MO:=if l<S.frz.length then S.frz[l]? else S.new[l-S.frz.length]?
abbrev len(S:St):Nat:=S.frz.length+S.new.length
abbrev push(S:St)(o:MO):St:={S with new:=S.new++[o]}
abbrev put(S:St)(l:Nat)(o:MO):Option St:=if l<S.frz.length then Ψ else if S.lk.contains l then Ψ else Φ {S with new:=S.new.set (l-S.frz.length) o}
abbrev enter(S:St):St:=⟨S.frz++S.new,[],[]⟩
end St
abbrev lay(S:St)(ds:List D):Out D:=if ds.length<=16777216 then .ok (.ref S.len) (S.push (.lst ds)) else .bad
abbrev wr(S:St)(l:Nat)(ds:List D)(d:D):Out D:=if ds.length<=16777216 then(match S.put l (.lst ds) with|some a=>.ok d a|none=>.bad) else .bad
abbrev pd(S:St):Nat->D->Option PyData
 |_,.non=>Φ .none|_,.bl b=>Φ (.bool b)|_,.int i=>Φ (.int i)|n+1,.tup a=>(a.mapM (pd S n)).map PyData.tuple
 |n+1,.ref l=>match S.get l with
  |some (.lst a)=>(a.mapM (pd S n)).map PyData.list|_=>Ψ
 |_,.fix _=>Ψ|_,.clo _=>Ψ|0,_=>Ψ
mutual
noncomputable def flat(n:Nat):D->Bool
 |.tup ds=>flats n ds|.ref l=>decide (l<n)|.fix ds=>flats n ds|_=>Γ
noncomputable def flats(n:Nat):List D->Bool
 | []=>Γ|d::ds=>flat n d&&flats n ds
end
abbrev zbh(S:St):D->Option (List D)
 |.tup a=>Φ a|.fix a=>Φ a
 |.ref l=>match S.get l with
  |some (.lst a)=>Φ a|_=>Ψ
 |_=>Ψ
abbrev lkOf(S:St):D->List Nat
 |.ref l=>[l]|_=>[]
abbrev tru(S:St):D->Option Bool
 |.non=>Φ Δ|.bl b=>Φ b|.int i=>Φ (i != 0)|.tup a=>Φ (!a.isEmpty)
 |.ref l=>match S.get l with
  |some (.lst a)=>Φ (!a.isEmpty)|_=>Ψ
 |_=>Ψ
abbrev tyOf(S:St):D->Option String
 |.non=>Φ "NoneType"|.bl _=>Φ "bool"|.int _=>Φ "int"|.tup _=>Φ "tuple"|_=>Ψ
abbrev ixN(n:Nat)(i:Int):Option Nat:=if 0<=i then(if i<n then Φ i.toNat else Ψ) else if -(n:Int)<=i then Φ (i+n).toNat else Ψ
abbrev atI{a:Type}(xs:List a)(i:Int):Option a:=(ixN xs.length i).bind λj=>xs[j]?
abbrev sIx(n d:Nat):Option Int->Nat
 |none=>d|some i=>if i<0 then(i+n).toNat else min i.toNat n
abbrev zed:D->Option Int
 |.int i=>Φ i|_=>Ψ
abbrev zfD(i j:Int):Bool:=decide (-(2^64)<i/\i<2^64)||decide (-(2^64)<j/\j<2^64)
abbrev binI(S:St)(op:Operator)(i j:Int):Out D:=match op with|.Add=>.ok (.int (i+j)) S|.Sub=>.ok (.int (i-j)) S|.Mult=>if zfD i j then .ok (.int (i*j)) S else .bad|.FloorDiv=>if 0<j/\j<1073741824 then .ok (.int (i/j)) S else .bad|.Mod=>if 0<j then .ok (.int (i%j)) S else .bad|.Pow=>if 0<=j/\j<=1000000/\-18446744073709551616<i/\i<18446744073709551616 then .ok (.int (i^j.toNat)) S else .bad|_=>.bad
abbrev binD(S:St)(op:Operator)(x y:D):Out D:=match x,y with|.int i,.int j=>binI S op i j|.tup c,.tup d=>(match op with|.Add=>if c.length+d.length<=16777216 then .ok (.tup (c++d)) S else .bad|_=>.bad)|.ref a,.ref b=>(match op,S.get a,S.get b with|.Add,Φ (.lst c),Φ (.lst d)=>lay S (c++d)|_,_,_=>.bad)|_,_=>.bad
abbrev eqD(S:St)(x y:D):Option Bool:=(pd S 60 x).bind λa=>(pd S 60 y).map λb=>PyData.eqv a b
abbrev inD(S:St)(x:D)(ys:List D):Option Bool:=(ys.mapM λz=>eqD S z x).map λa=>a.any id
abbrev zaD(ds:List D):Option (List Int):=ds.mapM zed
abbrev cmpI(op:CmpOp)(i j:Int):Option Bool:=match op with|.Eq=>Φ (decide (i=j))|.NotEq=>Φ (!decide (i=j))|.Lt=>Φ (decide (i<j))|.LtE=>Φ (decide (i<=j))|.Gt=>Φ (decide (j<i))|.GtE=>Φ (decide (j<=i))|_=>Ψ
abbrev zq1:D->Bool|.non=>Γ|_=>Δ
abbrev zga:D->Option (Option Int)
 |.non=>Φ Ψ|.int i=>Φ (Φ i)|_=>Ψ
abbrev key3:D->Option K3
 |.tup [.int a,.tup c,.int b]=>(zaD c).map λp=>(a,p,b)|_=>Ψ
abbrev zhC(kvs:List (K3×D))(k:K3)(v:D):List (K3×D):=if k∈kvs.map (·.1) then kvs.map (λx=>if x.1=k then(x.1,v) else x) else kvs++[(k,v)]
abbrev zfL:D->Option K3
 |.tup [_,.tup a,.int b,_]=>(zaD a).map λp=>(0,p,b)|_=>Ψ
abbrev zgH(S:St)(x:D):Option (List D×List K3):=match x with|.ref p=>(match S.get p with|some (.lst a)=>(a.mapM zfL).map λb=>(a,b)|_=>Ψ)|_=>Ψ
abbrev srtD(ds:List D)(ks:List K3):List D:=(zjf ks).map λk=>((ks.zip ds).lookup k).getD .non
abbrev cmpO(S:St)(op:CmpOp)(x y:D):Option Bool:=match op with|.Eq=>eqD S x y|.NotEq=>(eqD S x y).map (!·)|.Is=>(match y with|.non=>Φ (zq1 x)|_=>Ψ)|.IsNot=>(match y with|.non=>Φ (!zq1 x)|_=>Ψ)|.In=>(zbh S y).bind λa=>inD S x a|.NotIn=>((zbh S y).bind λa=>inD S x a).map (!·)|_=>Ψ
abbrev cmpD(S:St)(op:CmpOp)(x y:D):Option Bool:=match x,y with|.int i,.int j=>cmpI op i j|_,_=>cmpO S op x y
inductive Bi where
 |len
 |abs
 |max2
 |min2
 |isin (t:String)
abbrev zbg(ds:List D):Option (List (Option Int)):=ds.mapM zga
inductive Mt where
 |append
 |popAt
 |count
abbrev bi(S:St):Bi->List D->Out D
 |.len,[x]=>(match x with
  |.tup b=>.ok (.int b.length) S|.fix b=>.ok (.int b.length) S|.ref l=>(match S.get l with|some (.lst b)=>.ok (.int b.length) S|_=>.bad)|_=>.bad)
 |.abs,[.int i]=>.ok (.int (if i<0 then -i else i)) S|.max2,[.int i,.int j]=>.ok (.int (if j>i then j else i)) S|.min2,[.int i,.int j]=>.ok (.int (if j<i then j else i)) S|.isin t,[x]=>(match tyOf S x with|some a=>.ok (.bl (a==t||(a=="bool"&&t=="int"))) S|none=>.bad)|_,_=>.bad
abbrev isL(S:St):D->Bool
 |.ref l=>(match S.get l with|some (.lst _)=>Γ|_=>Δ)|_=>Δ
abbrev mt(S:St):Mt->D->List D->Out D
 |.append,.ref l,[y]=>(match S.get l with|some (.lst a)=>wr S l (a++[y]) .non|_=>.bad)
 |.popAt,.ref l,[.int i]=>(match S.get l with
  |some (.lst a)=>if 0<=i then(match a[i.toNat]? with|some y=>wr S l (a.eraseIdx i.toNat) y|none=>.bad) else .bad|_=>.bad)
 |.count,.ref l,[.int i]=>(match S.get l with
  |some (.lst a)=>(match zbg a with|some os=>.ok (.int (os.count (Φ i):Nat)) S|none=>.bad)|_=>.bad)
 |.count,.ref l,[.non]=>(match S.get l with
  |some (.lst a)=>(match zbg a with|some os=>.ok (.int (os.count Ψ:Nat)) S|none=>.bad)|_=>.bad)
 |_,_,_=>.bad
abbrev putI:List (Int×D)->Int->D->List (Int×D)
 | [],k,v=>[(k,v)]|(j,d)::r,k,v=>if j=k then(j,v)::r else(j,d)::putI r k v
abbrev dicI(S:St)(x:D):Option (List Int):=match x with|.ref p=>(match S.get p with|some (.dic a)=>Φ (a.map (·.1))|_=>Ψ)|_=>Ψ
abbrev dPut(S:St)(x y v:D):Option St:=match x with
 |.ref l=>(match S.get l with
  |some (.dic a)=>(zed y).bind λk=>if a.length<16777216 then S.put l (.dic (putI a k v)) else Ψ|_=>Ψ)
 |_=>Ψ
abbrev zf0(S:St)(x y v:D):Option St:=match x with
 |.ref l=>(match S.get l with
  |some (.d3 a)=>(key3 y).bind λk=>if a.length<16777216 then S.put l (.d3 (zhC a k v)) else Ψ|_=>Ψ)
 |_=>Ψ
abbrev lsts(S:St)(x y:D):Option (Nat×List D×List D):=match x,y with|.ref p,.ref r=>(match S.get p,S.get r with|some (.lst a),Φ (.lst b)=>Φ (p,a,b)|_,_=>Ψ)|_,_=>Ψ
abbrev valI(kvs:List (Int×D))(k:Int):Option D:=(kvs.find? λa=>decide (a.1=k)).map (·.2)
abbrev isDi(S:St):D->Bool
 |.ref l=>(match S.get l with|some (.dic _)=>Γ|_=>Δ)|_=>Δ
abbrev zg2(S:St)(x y:D):Option (Option D):=match x with|.ref l=>(match S.get l with|some (.dic a)=>(zed y).map λk=>valI a k|_=>Ψ)|_=>Ψ
abbrev zfZ(S:St)(x y v:D):Option (D×St):=match zg2 S x y with|some (Φ u)=>Φ (u,S)|some Ψ=>(dPut S x y v).map λT=>(v,T)|none=>Ψ
abbrev wD:Option Int->D
 |none=>.non|some i=>.int i
abbrev putW(kvs:List (K3×Option Int))(k:K3)(o:Option Int):List (K3×Option Int):=if k∈kvs.map (·.1) then kvs.map (λx=>if x.1=k then(x.1,o) else x) else kvs++[(k,o)]
abbrev lie4:D->Option (K3×Option Int)
 |.tup [.int a,.tup c,.int b,w]=>(zaD c).bind λp=>(zga w).map λo=>((a,p,b),o)|_=>Ψ
abbrev zaz(kvs:List (K3×Option Int)):List (K3×Option Int)->List (K3×Option Int)
 | []=>kvs|l::a=>zaz (putW kvs l.1 l.2) a
abbrev zdo:D->List D->Option D
 |.clo a,[.int t,.tup d,.int b,w]=>(zaD d).map λp=>(match a.find? λc=>decide (c.1=(t,p,b)) with|some c=>wD c.2|none=>w)|_,_=>Ψ
abbrev zb0(S:St):D->Option (Nat×List (Str×D))
 |.ref l=>(match S.get l with|some (.ins c a)=>Φ (c,a)|_=>Ψ)|_=>Ψ
abbrev zkO(f:Str)(v:D):List (Str×D)->List (Str×D)
 | []=>[(f,v)]|(g,x)::r=>if g=f then(g,v)::r else(g,x)::zkO f v r
abbrev zbU(S:St)(x:D)(f:Str)(v:D):Option St:=match x with|.ref l=>(match S.get l with|some (.ins c a)=>if a.length<1000 then S.put l (.ins c (zkO f v a)) else Ψ|_=>Ψ)|_=>Ψ
abbrev zlH:D->Bool|.non=>Γ|_=>Δ
abbrev stpI(n:Nat)(k:Int):List Nat:=PySem.sliceRange (if k>0 then 0 else(n:Int)-1) (if k>0 then(n:Int) else -1) k
abbrev stp{a:Type}(xs:List a)(k:Int):List a:=(stpI xs.length k).filterMap (xs[·]?)
mutual
inductive CE where
 |loc (i:Nat)
 |con (d:D)
 |tst (a:CE)
 |bin (op:Operator) (a b:CE)
 |neg (a:CE)
 |nt (a:CE)
 |cmp (op:CmpOp) (a b:CE)
 |cmp2 (op op':CmpOp) (a b c:CE)
 |and (a b:CE)
 |or (a b:CE)
 |ite (c a b:CE)
 |tup (es:CEs)
 |lst (es:CEs)
 |dnew
 |dnew3
 |srtK (a:CE)
 |dgetI (a b c:CE)
 |dsetI (a b c:CE)
 |extv (a b:CE)
 |ix (a b:CE)
 |fld (a:CE) (f:Str)
 |mk (c f:Nat) (x:Str) (j:Nat) (es:CEs)
 |meth (m:Str) (tb:List (Nat×Nat)) (o:CE) (es:CEs)
 |callC (f:Nat) (x m:Str) (es:CEs)
 |callV (a:CE) (es:CEs)
 |sl (a:CE) (n:Nat)
 |intb (a:CE)
 |slS (a b:CE)
 |call (f j:Nat) (es:CEs)
 |callW (f j:Nat) (es:CEs)
 |bi (b:Bi) (es:CEs)
 |mt (m:Mt) (o:CE) (es:CEs)
 |mkL (l:CL)
 |mkT (l:CL)
 |all (l:CL)
 |ext (a:CE) (l:CL)
 |lenset (l:CL)
 |sset (a:CE)
inductive CEs where
 |nil
 |cons (e:CE) (r:CEs)
inductive CL where
 |val (e:CE)
 |rng1 (a:CE)
 |rng2 (a b:CE)
 |enum (a:CE)
 |comp (nt:Nat) (js:List Nat) (g:List Nat) (it:CL) (c:CE) (e:CE)
end
inductive CS where
 |nil
 |stop
 |asg (i:Nat) (e:CE) (r:CS)
 |asgT (g:List Nat) (e:CE) (r:CS)
 |setIx (a b e:CE) (r:CS)
 |setF (a:CE) (f:Str) (e:CE) (r:CS)
 |retN (r:CS)
 |ifS (c:CE) (t u:CS) (r:CS)
 |forS (g:List Nat) (l:CL) (b:CS) (r:CS)
 |ret (e:CE) (r:CS)
 |expr (e:CE) (r:CS)
@[reducible]def Ev:=List (Option D)
abbrev zev:List Nat->List D->Ev->Ev
 |i::b,d::c,a=>zev b c (a.set i (Φ d))|_,_,a=>a
abbrev asgG(g:List Nat)(x:D)(δ:Ev):Option Ev:=match g with| [i]=>Φ (δ.set i (Φ x))|is=>(match x with|.tup a=>if a.length=is.length then Φ (zev is a δ) else Ψ|_=>Ψ)
abbrev zhH(x y:D):D:=.tup [x,y]
abbrev zdn(S:St):D->Option (List D×List Nat)
 |.ref l=>(match S.get l with|some (.lst a)=>Φ (a.mapIdx λi d=>zhH (.int i) d,[l])|_=>Ψ)|_=>Ψ
@[reducible]def CF:=Nat->List D->St->Out D
abbrev zcG(S:St)(d:D)(T:St):Out D:=
 if flat S.len d then .ok d S else
 let a:Out D:=.ok d ⟨S.frz,S.new++T.new,S.lk⟩
 match d with
  |.ref l=>(match T.get l with
   |some (.lst c)=>if flats S.len c then .ok (.ref S.len) (S.push (.lst c)) else a|some (.dic b)=>if flats S.len (b.map (·.2)) then .ok (.ref S.len) (S.push (.dic b)) else a|_=>a)
  |_=>a
abbrev zln(S:St)(d:D)(T:St):Out (List D):=match d with|.ref l=>if l<S.len then .bad else(match T.get l with|some (.lst a)=>if flats S.len a then .ok a S else .bad|_=>.bad)|_=>.bad
@[irreducible]noncomputable def app(cf:CF)(f:Nat)(ds:List D)(S:St):Out D:=(cf f ds S.enter).bind λd T=>zcG S d T
@[irreducible]noncomputable def appL(cf:CF)(f:Nat)(ds:List D)(S:St):Out (List D):=(cf f ds S.enter).bind λd T=>zln S d T
@[irreducible]noncomputable def appW(cf:CF)(f:Nat)(ds:List D)(S:St):Out D:=cf f ds S
abbrev csl(a:Nat)(b:List Nat)(δ:Ev):Ev:=List.replicate a Ψ++b.map λj=>(δ[j]?).join
abbrev zax(g:List Nat)(c:Ev->St->Out Bool)(e:Ev->St->Out D):List D->Ev->St->Out (List D)
 | [],_,S=>.ok [] S| x::f,i,S=>match asgG g x i with|none=>.bad|some a=>(c a S).bind λb h=>if b then(e a h).bind λd j=>(zax g c e f a j).bind λk l=>.ok (d::k) l else zax g c e f a h
abbrev zbj{b:Type}(ls:List Nat)(S:St)(f:St->Out b):Out b:=(f {S with lk:=ls++S.lk}).bind λa c=>.ok a {c with lk:=S.lk}
abbrev zhd:D->Option Bool
 |.bl b=>Φ b|_=>Ψ
abbrev allD(ds:List D):Option Bool:=(ds.mapM zhd).map λa=>a.all id
abbrev insZ(x:Int):List Int->List Int
 | []=>[x]|y::l=>if x<=y then x::y::l else y::insZ x l
abbrev zey:List Int->List Int
 | []=>[]|x::l=>insZ x (zey l)
abbrev lstI(S:St)(x:D):Option (List Int):=match x with|.ref p=>(match S.get p with|some (.lst a)=>zaD a|_=>Ψ)|_=>Ψ
abbrev dedup(xs:List Int):List Int:=xs.foldl (λa x=>if a.contains x then a else a++[x]) []
section
variable(cf:CF)
mutual
noncomputable def evE(e₀:CE)(δ:Ev)(S:St):Out D:=match e₀ with
 |.loc i=>lift S (δ[i]?).join|.con d=>.ok d S|.tst _=>.bad|.bin op a b=>(evE a δ S).bind λx S1=>(evE b δ S1).bind λy S2=>binD S2 op x y|.neg a=>(evE a δ S).bind λx S1=>match x with|.int i=>.ok (.int (-i)) S1|_=>.bad
 |.nt a=>(evE a δ S).bind λx S1=>match x with|.bl b=>.ok (.bl (!b)) S1|_=>.bad
 |.cmp op a b=>(evE a δ S).bind λx S1=>(evE b δ S1).bind λy S2=>(lift S2 (cmpD S2 op x y)).bind λk S3=>.ok (.bl k) S3|.cmp2 op op' a b c=>(evE a δ S).bind λx S1=>(evE b δ S1).bind λy S2=>(lift S2 (cmpD S2 op x y)).bind λk S3=>if k then(evE c δ S3).bind λz S4=>(lift S4 (cmpD S4 op' y z)).bind λk' S5=>.ok (.bl k') S5 else .ok (.bl Δ) S3|.and a b=>(evE a δ S).bind λx S1=>match x with|.bl k=>if k then evE b δ S1 else .ok (.bl Δ) S1|_=>.bad
 |.or a b=>(evE a δ S).bind λx S1=>match x with|.bl k=>if k then .ok (.bl Γ) S1 else evE b δ S1|_=>.bad
 |.ite c a b=>(evT c δ S).bind λk S1=>if k then evE a δ S1 else evE b δ S1|.tup es=>(evEs es δ S).bind λds S1=>if ds.length<=16777216 then .ok (.tup ds) S1 else .bad|.lst es=>(evEs es δ S).bind λds S1=>lay S1 ds|.dnew=>.ok (.ref S.len) (S.push (.dic []))|.dnew3=>.ok (.ref S.len) (S.push (.d3 []))|.srtK a=>(evE a δ S).bind λx S1=>(lift S1 (zgH S1 x)).bind λq S2=>if q.2.length<64/\q.2.Nodup then lay S2 (srtD q.1 q.2) else .bad|.dgetI a b c=>(evE a δ S).bind λx S1=>if isDi S1 x then(evE b δ S1).bind λy S2=>(evE c δ S2).bind λz S3=>(lift S3 (zg2 S3 x y)).bind λo S4=>.ok (o.getD z) S4 else .bad|.dsetI a b c=>(evE a δ S).bind λx S1=>if isDi S1 x then(evE b δ S1).bind λy S2=>(evE c δ S2).bind λz S3=>(lift S3 (zfZ S3 x y z)).bind λo _=>.ok o.1 o.2 else .bad|.extv a b=>(evE a δ S).bind λx S1=>if isL S1 x then(evE b δ S1).bind λy S2=>(lift S2 (lsts S2 x y)).bind λo S3=>wr S3 o.1 (o.2.1++o.2.2) .non else .bad|.fld a f=>(evE a δ S).bind λx S1=>lift S1 ((zb0 S1 x).bind λp=>p.2.lookup f)|.mk c f _ j es=>(evEs es δ S).bind λds S1=>(appW cf f (.ref S1.len::(ds++List.replicate j .non)) (S1.push (.ins c []))).bind λd S2=>if zlH d then .ok (.ref S1.len) S2 else .bad|.meth m tb o es=>(evE o δ S).bind λx S1=>(lift S1 (zb0 S1 x)).bind λp S1=>(lift S1 (tb.lookup p.1)).bind λf S1=>if(p.2.lookup m).isNone then(evEs es δ S1).bind λds S2=>appW cf f (x::ds) S2 else .bad|.callC f _ _ es=>(evEs es δ S).bind λds S1=>appW cf f ds S1|.callV a es=>(evE a δ S).bind λx S1=>(evEs es δ S1).bind λds S2=>lift S2 (zdo x ds)|.ix a b=>(evE a δ S).bind λx S1=>(evE b δ S1).bind λy S2=>match zbh S2 x,y with|some ds,.int i=>lift S2 (atI ds i)|_,_=>.bad
 |.sl a n=>(evE a δ S).bind λx S1=>match x with|.tup ds=>if n<ds.length then .ok (.tup (ds.take n)) S1 else .bad|_=>.bad
 |.intb a=>(evE a δ S).bind λx S1=>match x with|.bl b=>.ok (.int (if b then 1 else 0)) S1|_=>.bad
 |.slS a b=>(evE a δ S).bind λx S1=>(evE b δ S1).bind λy S2=>match x,y with
  |.ref p,.int k=>if k=0 then .bad else(match S2.get p with|some (.lst ds)=>lay S2 (stp ds k)|_=>.bad)|_,_=>.bad
 |.call f j es=>(evEs es δ S).bind λds S1=>app cf f (ds++List.replicate j .non) S1|.callW f j es=>(evEs es δ S).bind λds S1=>appW cf f (ds++List.replicate j .non) S1|.bi b es=>(evEs es δ S).bind λds S1=>R.bi S1 b ds|.mt m o es=>(evE o δ S).bind λx S1=>if isL S1 x then(evEs es δ S1).bind λds S2=>R.mt S2 m x ds else .bad|.mkL l=>(evL l δ S).bind λr S1=>lay S1 r.1|.mkT l=>(evL l δ S).bind λr S1=>if r.1.length<=16777216 then .ok (.tup r.1) S1 else .bad|.all l=>(evL l δ S).bind λr S1=>(lift S1 (allD r.1)).bind λb S2=>.ok (.bl b) S2
 |.ext a l=>(evE a δ S).bind λx S1=>if isL S1 x then(evL l δ S1).bind λr S2=>(match x with
  |.ref p=>(match S2.get p with|some (.lst ds)=>wr S2 p (ds++r.1) .non|_=>.bad)|_=>.bad) else .bad
 |.lenset l=>(evL l δ S).bind λr S1=>(lift S1 (zaD r.1)).bind λis S2=>if is.length<4000 then .ok (.int (dedup is).length) S2 else .bad|.sset a=>(evE a δ S).bind λx S1=>(lift S1 (lstI S1 x)).bind λis S2=>if is.length<64 then lay S2 ((zey (dedup is)).map .int) else .bad
noncomputable def evEs(e₀:CEs)(δ:Ev)(S:St):Out (List D):=match e₀ with|.nil=>.ok [] S|.cons e r=>(evE e δ S).bind λd S1=>(evEs r δ S1).bind λds S2=>.ok (d::ds) S2
noncomputable def evT(e₀:CE)(δ:Ev)(S:St):Out Bool:=match e₀ with|.cmp op a b=>(evE a δ S).bind λx S1=>(evE b δ S1).bind λy S2=>lift S2 (cmpD S2 op x y)|.cmp2 op op' a b c=>(evE a δ S).bind λx S1=>(evE b δ S1).bind λy S2=>(lift S2 (cmpD S2 op x y)).bind λk S3=>if k then(evE c δ S3).bind λz S4=>lift S4 (cmpD S4 op' y z) else .ok Δ S3|.nt a=>(evT a δ S).bind λk S1=>.ok (!k) S1|.and a b=>(evT a δ S).bind λk S1=>if k then evT b δ S1 else .ok Δ S1|.or a b=>(evT a δ S).bind λk S1=>if k then .ok Γ S1 else evT b δ S1|.tst e=>(evE e δ S).bind λx S1=>lift S1 (tru S1 x)|_=>.bad
noncomputable def evL(e₀:CL)(δ:Ev)(S:St):Out (List D×List Nat):=match e₀ with
 |.val e=>(evE e δ S).bind λx S1=>(lift S1 (zbh S1 x)).bind λds S2=>.ok (ds,lkOf S2 x) S2|.rng1 a=>(evE a δ S).bind λx S1=>match x with|.int j=>if -(2^62)<=j/\j<2^62 then .ok ((List.range j.toNat).map λ(k:Nat)=>.int k,[]) S1 else .bad|_=>.bad
 |.rng2 a b=>(evE a δ S).bind λx S1=>(evE b δ S1).bind λy S2=>match x,y with
  |.int i,.int j=>if -(2^62)<=i/\i<2^62/\-(2^62)<=j/\j<2^62 then .ok ((List.range (j-i).toNat).map λ(k:Nat)=>.int (i+k),[]) S2 else .bad|_,_=>.bad
 |.enum a=>(evE a δ S).bind λx S1=>lift S1 (zdn S1 x)|.comp n js g it c e=>(evL it δ S).bind λr S1=>(zbj r.2 S1 λS2=>zax g (evT c) (evE e) r.1 (csl n js δ) S2).bind λds S3=>if ds.length<=16777216 then .ok (ds,[]) S3 else .bad
end
inductive Fl where
 |nx (δ:Ev)|rt (d:D)
abbrev zaM(g:List Nat)(b:Ev->St->Out Fl):List D->Ev->St->Out Fl
 | [],a,S=>.ok (.nx a) S| x::i,a,S=>match asgG g x a with|none=>.bad| some c=>(b c S).bind λf h=>match f with|.nx e=>zaM g b i e h|.rt d=>.ok (.rt d) h
abbrev exS(o:CS)(δ:Ev)(S:St):Out Fl:=match o with
 |.nil=>.ok (.nx δ) S|.stop=>.bad|.asg i e r=>(evE cf e δ S).bind λx h=>exS r (δ.set i (Φ x)) h|.asgT g e r=>(evE cf e δ S).bind λx h=>(lift h (asgG g x δ)).bind λj m=>exS r j m|.setIx a b e r=>(evE cf e δ S).bind λv h=>(evE cf a δ h).bind λx m=>(evE cf b δ m).bind λy n=>match zf0 n x y v with|some p=>exS r δ p|none=>.bad
 |.setF a f e r=>(evE cf e δ S).bind λv h=>(evE cf a δ h).bind λx m=>match zbU m x f v with|some n=>exS r δ n|none=>.bad
 |.ifS c t u r=>(evT cf c δ S).bind λk h=>(if k then exS t δ h else exS u δ h).bind λf m=>match f with
  |.nx j=>exS r j m|.rt d=>.ok (.rt d) m
 |.forS g l b r=>(evL cf l δ S).bind λq h=>(zbj q.2 h λm=>zaM g (exS b) q.1 δ m).bind λf n=>match f with
  |.nx j=>exS r j n|.rt d=>.ok (.rt d) n
 |.retN _=>.ok (.rt .non) S|.ret e _=>(evE cf e δ S).bind λx h=>.ok (.rt x) h|.expr e r=>(evE cf e δ S).bind λ_ h=>exS r δ h
end
inductive Prim where
 |tally|road
 |lam
abbrev rowD(r:Int×Int):D:=.tup [.int r.1,.int r.2]
abbrev talD(os:List (Option Int)):List D:=(zbi (zah [] os)).map rowD
abbrev prm(S:St):Prim->List D->Out D
 |.tally,[.ref l]=>(match S.get l with
  |some (.lst b)=>(match zbg b with
   |some os=>if(zah [] os).length<64/\os.length<=16777216 then .ok (.ref S.len) (S.push (.lst (talD os))) else .bad|none=>.bad)
  |_=>.bad)
 |.road,[x]=>(match (zbh S x).bind λc=>c.mapM lie4 with
  |some a=>if a.length<=1000/\S.lk=[] then .ok (.clo (zaz [] a)) S else .bad|none=>.bad)
 |_,_=>.bad
structure Fn where
 np:Nat
 nn:Nat
 body:CS
 prim:Option Prim
abbrev za5(F:Fn)(ds:List D):Ev:=ds.map Φ++List.replicate (F.nn-F.np) Ψ
abbrev callF(P:List Fn):Nat->CF
 |0,_,_,_=>.bad
 |n+1,f,a,S=>match P[f]? with
  | some F=>if a.length=F.np then(match F.prim with
     |some .lam=>if 3<=n then(exS (callF P n) F.body (za5 F a) S).bind λr T=>(match r with
      |.nx _=>.ok .non T|.rt d=>.ok d T) else .bad
     |some p=>if 3<=n then prm S p a else .bad| none=>(exS (callF P n) F.body (za5 F a) S).bind λr T=>match r with|.nx _=>.ok .non T|.rt d=>.ok d T)
    else .bad
  |none=>.bad
@[simp]theorem zas{α β:Type}(a:α)(S:St)(f:α->St->Out β):(Out.ok a S).bind f=f a S:=rfl
@[simp]theorem zue{α β:Type}(f:α->St->Out β):(Out.bad:Out α).bind f=.bad:=rfl
@[simp]theorem zud{α β:Type}(d:D)(S:St)(f:α->St->Out β):(Out.err d S:Out α).bind f=.err d S:=rfl
@[simp]theorem zcW{α:Type}(S:St)(a:α):lift S (Φ a)=.ok a S:=rfl
def zbe(S:St):S.enter.get=S.get:=by funext l;simp![St.get,St.enter,length_append,List.getElem?_append];by_cases h:l<S.frz.length;simp[h,lt_of_lt_of_le h (Nat.le_add_right _ _)];simp![h,if_false];split;rfl;simp![List.getElem?_nil];exact(List.getElem?_eq_none (by lia)).symm
@[simp]theorem zl3(S:St):S.enter.frz=S.frz++S.new:=rfl
@[simp]theorem ztQ(S:St):S.enter.new=[]:=rfl
@[simp]theorem zuc(S:St):S.enter.lk=[]:=rfl
@[simp]theorem enter_len(S:St):S.enter.len=S.len:=by simp[St.len]
def zd7(S:St):(S.frz++S.new).length=S.len:=by simp[St.len]
def get_lt{S:St}(h:S.get l=Φ o):l<S.len:=by unfold St.get at h;unfold St.len;split at h;lia;have:=(Α.mp h).1;lia
def zhT{S:St}(h:S.get l=Φ o)(a)(lk):(St.mk (S.frz++S.new) a lk).get l=Φ o:=by
 have b:=get_lt h;rw[<-zbe]at h;unfold St.get at h⊢;have e:l<(S.frz++S.new).length:=by rw[zd7];exact b
 simp![zl3,e,if_true]at h⊢;exact h
def zhU(F nw)(lk)(i):(St.mk F nw lk).get (F.length+i)=nw[i]?:=by
 have:¬F.length+i<F.length:=by lia
 simp[St.get,this]
def ziQ(F nw)(lk):(St.mk F nw lk).get F.length=nw[0]?:=zhU F nw lk 0
@[simp]theorem zt9(n:Nat):flat n .non=Γ:=by simp[flat]
@[simp]theorem zu3(n:Nat)(b:Bool):flat n (.bl b)=Γ:=by simp[flat]
@[simp]theorem zua(n:Nat)(i:Int):flat n (.int i)=Γ:=by simp[flat]
@[simp]theorem zcs(n:Nat)(ds:List D):flat n (.tup ds)=flats n ds:=by simp[flat]
@[simp]theorem zub(n:Nat)(ds:List D):flat n (.fix ds)=flats n ds:=by simp[flat]
@[simp]theorem ztL(n:Nat):flats n []=Γ:=by simp[flats]
@[simp]theorem zrC(n:Nat)(d:D)(ds:List D):flats n (d::ds)=(flat n d&&flats n ds):=by simp[flats]
@[simp]theorem zgT(n:Nat):∀ds es:List D,flats n (ds++es)=(flats n ds&&flats n es)
  | [],es=>by simp|d::ds,es=>by simp[zgT n ds es,Bool.and_assoc]
def zaH(n):∀ds:List D,flats n ds=Γ↔∀d∈ds,flat n d=Γ
 | []=>by simp|d::ds=>by simp[zaH n ds]
@[simp]theorem zrB(n:Nat)(ns:List Int):flats n (ns.map D.int)=Γ:=by rw[zaH];simp
@[simp]theorem zjD(S:St)(d:D)(T:St)(h:flat S.len d=Γ):zcG S d T=.ok d S:=by simp[zcG,h]
abbrev W{b:Type}(o:Out b)(Q:b->St->Prop):Prop:=match o with|.ok a S=>Q a S|_=>False
@[simp]theorem W_ok{α:Type}(a:α)(S:St)(Q:α->St->Prop):W (.ok a S) Q=Q a S:=rfl
@[simp]theorem zvi{α:Type}(Q:α->St->Prop):W (.bad:Out α) Q=False:=rfl
@[simp]theorem zvh{α:Type}(d:D)(S:St)(Q:α->St->Prop):W (.err d S:Out α) Q=False:=rfl
@[simp]theorem zab{α β:Type}(o:Out α)(f:α->St->Out β)(Q:β->St->Prop):W (o.bind f) Q=W o λa S=>W (f a S) Q:=by cases o<;>rfl
def W.mono(h:W o Q)(b:∀a S,Q a S->c a S):W o c:=by cases o with|ok a S=>exact b a S h|err d S=>exact h|bad=>exact h
def W.b(h:W (o.bind f) Q):W o λa S=>W (f a S) Q:=Eq.mp (zab o f Q) h
def W.eq(h:W o λa T=>a=d/\T=S):o=.ok d S:=by cases o with|ok a T=>let⟨rfl,rfl⟩:=h;rfl|err d S=>exact False.elim h|bad=>exact False.elim h
def W.of(h:o=.ok d S)(q:Q d S):W o Q:=by rw[h];exact q
def W.iff:W o Q↔∃a S,o=.ok a S/\Q a S:=by cases o with|ok a S=>exact⟨λh=>⟨a,S,rfl,h⟩,λ⟨_,_,e,h⟩=>by cases e;exact h⟩|err d S=>exact⟨λh=>h.elim,λk=>(by let⟨_,_,e,_⟩:=k;cases e)⟩|bad=>exact⟨λh=>h.elim,λz=>(by let⟨_,_,e,_⟩:=z;cases e)⟩
abbrev fin(S:St)(r:Fl)(T:St):Out D:=match r with|.nx _=>zcG S .non T|.rt d=>zcG S d T
@[simp]theorem zlZ(S T:St)(d:D):fin S (.rt d) T=zcG S d T:=rfl
@[simp]theorem zvg(S T:St)(δ:Ev):fin S (.nx δ) T=.ok .non S:=by simp[fin]
def zmu(h:P[f]?=Φ F)(a:ds.length=F.np)(b:F.prim=Ψ:=by rfl):
  app (callF P (n+1)) f ds S=(exS (callF P n) F.body (za5 F ds) S.enter).bind λr T=>fin S r T:=by
 simp![app,callF,h,a,b,if_true];generalize exS (callF P n) F.body (za5 F ds) S.enter=o;cases o with|ok r T=>cases r<;>rfl|err d S=>rfl|bad=>rfl
abbrev finL(S:St)(r:Fl)(T:St):Out (List D):=match r with|.nx _=>.bad|.rt d=>zln S d T
@[simp]theorem zu4(S T:St)(d:D):finL S (.rt d) T=zln S d T:=rfl
def zaE(I:Nat->Ev->St->Prop)(l:D->St->Prop):∀(xs:List D)(k:Nat)(δ:Ev)(S:St),I k δ S->
  (∀i x δ S,xs[i]?=Φ x->I (k+i) δ S->∃a,asgG g x δ=Φ a/\W (b a S) λf j=>match f with|.nx c=>I (k+i+1) c j|.rt d=>l d j)->
  W (zaM g b xs δ S) λf j=>match f with|.nx a=>I (k+xs.length) a j|.rt d=>l d j
 | [],k,δ,S,h,_=>by simpa[zaM]using h| x::xs,k,δ,S,h,step=>by let⟨a,e,w⟩:=step 0 x δ S rfl h;simp![zaM,e,zab];refine w.mono λf o m=>?_;cases f with|rt d=>exact m| nx c=>have n:=zaE I l xs (k+1) c o m (λi y δ S p q=>by have:=step (i+1) y δ S (by simpa using p) (by rw[show k+(i+1)=k+1+i by lia];exact q);rw[show k+(i+1)+1=k+1+i+1 by lia]at this;exact this);rw[show k+1+xs.length=k+(x::xs).length by simp;lia]at n;exact n
def zaT(p)(f):∀(xs:List D)(o:Option D),
  (∀x∈xs,c (Φ x::rest) S=.ok (p x) S)->(∀x∈xs,p x=Γ->e (Φ x::rest) S=.ok (f x) S)->zax [0] c e xs (o::rest) S=.ok ((xs.filter p).map f) S
 | [],o,_,_=>rfl| x::xs,o,d,g=>by have h:=zaT p f xs (Φ x) (λy a=>d y (Κ _ a)) (λy a=>g y (Κ _ a));simp![zax,asgG,List.set_cons_zero,d x Μ,zas];cases b:p x with|false=>simp[h,b]|true=>simp[h,b,g x Μ b]
def zeJ(f)(xs)(o)(a:∀x∈xs,c (Φ x::rest) S=.ok Γ S)(b:∀x∈xs,e (Φ x::rest) S=.ok (f x) S):zax [0] c e xs (o::rest) S=.ok (xs.map f) S:=by
 have:=zaT (c:=c) (e:=e) (S:=S) (rest:=rest) (λ_=>Γ) f xs o a (λx d _=>b x d);rw[List.filter_eq_self.mpr (λ_ _=>rfl)]at this;exact this
@[simp]theorem zrA{α:Type}(S:St)(f:St->Out α):zbj [] S f=(f S).bind λa S'=>.ok a {S' with lk:=S.lk}:=rfl
abbrev wIf(c:Bool)(P Q:Prop):Prop:=match c with|true=>P|false=>Q
@[irreducible]def wOpt{α:Type}(o:Option α)(k:α->Prop):Prop:=match o with|some a=>k a|none=>False
@[irreducible]def zaZ(p k:Prop):Prop:=p/\k
@[irreducible]def wOut{α:Type}(o:Out α)(Q:α->St->Prop):Prop:=W o Q
def zi7(h:c=Γ)(k:P):wIf c P Q:=by subst h;exact k
def zj0(h:c=Δ)(k:Q):wIf c P Q:=by subst h;exact k
def zi8(a:c=Γ->P)(b:c=Δ->Q):wIf c P Q:=by cases c with|true=>exact zi7 rfl (a rfl)|false=>exact zj0 rfl (b rfl)
def zbJ[Decidable p](a:p->P)(b:¬p->Q):wIf (decide p) P Q:=zi8 (λh=>a (of_decide_eq_true h)) (λh=>b (of_decide_eq_false h))
def wOpt_of(h:o=Φ a)(q:k a):wOpt o k:=by unfold wOpt;rw[h];exact q
def wNeed_of(h:p)(q:k):zaZ p k:=by unfold zaZ;exact⟨h,q⟩
def wOut_of(h:o=.ok a S)(q:Q a S):wOut o Q:=by unfold wOut;rw[h];exact q
def zbo(h:W o Q):wOut o Q:=by unfold wOut;exact h
def zrL:wOpt o (λa=>Q a S)=W (lift S o) Q:=by unfold wOpt;cases o<;>rfl
def za9(h:wOpt o k):∃a,o=Φ a/\k a:=by unfold wOpt at h;cases o with|none=>exact h.elim|some a=>exact⟨a,rfl,h⟩
def zb1[Decidable p](h:zaZ p k)(q:k->W o Q):W (if p then o else .bad) Q:=by unfold zaZ at h;rw[if_pos h.1];exact q h.2
@[reducible]def wGet(S:St)(l:Nat)(k:MO->Prop):Prop:=wOpt (S.get l) k
@[reducible]def wPut(S:St)(l:Nat)(o:MO)(k:St->Prop):Prop:=wOpt (S.put l o) k
def zaA{S:St}(h:S.get l=Φ o)(q:k o):wGet (St.mk (S.frz++S.new) a lk) l k:=wOpt_of (zhT h a lk) q
def zam(h:nw[i]?=Φ o)(q:k o):wGet (St.mk F nw lk) (F.length+i) k:=wOpt_of ((zhU F nw lk i).trans h) q
def zqh(h:lk.contains (F.length+i)=Δ):(St.mk F nw lk).put (F.length+i) o=Φ ⟨F,nw.set i o,lk⟩:=by
 have a:¬F.length+i<F.length:=by lia
 simp![St.put,a,if_false,h,Ρ,Nat.add_sub_cancel_left]
def zaF(h:lk.contains (F.length+i)=Δ)(q:k ⟨F,nw.set i o,lk⟩):wPut (St.mk F nw lk) (F.length+i) o k:=wOpt_of (zqh h) q
abbrev wLay(S:St)(ds:List D)(Q:D->St->Prop):Prop:=zaZ (ds.length<=16777216) (Q (.ref S.len) (S.push (.lst ds)))
def zjY(h:wLay S ds Q):W (lay S ds) Q:=zb1 h id
abbrev wWr(S:St)(l:Nat)(ds:List D)(d:D)(Q:D->St->Prop):Prop:=zaZ (ds.length<=16777216) (wPut S l (.lst ds) λa=>Q d a)
def zpj(h:wWr S l ds d Q):W (wr S l ds d) Q:=by refine zb1 h λh=>?_;let⟨_,e,h⟩:=za9 h;rw[e];exact h
abbrev zrN(S:St)(op:Operator)(i j:Int)(Q:D->St->Prop):Prop:=match op with|.Add=>Q (.int (i+j)) S|.Sub=>Q (.int (i-j)) S|.Mult=>zaZ (zfD i j=Γ) (Q (.int (i*j)) S)|.FloorDiv=>zaZ (0<j/\j<1073741824) (Q (.int (i/j)) S)|.Mod=>zaZ (0<j) (Q (.int (i%j)) S)|.Pow=>zaZ (0<=j/\j<=1000000/\-18446744073709551616<i/\i<18446744073709551616) (Q (.int (i^j.toNat)) S)|_=>False
abbrev wBin(S:St)(op:Operator)(x y:D)(Q:D->St->Prop):Prop:=match x,y with|.int i,.int j=>zrN S op i j Q|.tup c,.tup d=>(match op with|.Add=>zaZ (c.length+d.length<=16777216) (Q (.tup (c++d)) S)|_=>False)|.ref a,.ref b=>(match op with|.Add=>wGet S a λo=>wGet S b λu=>(match o,u with|.lst c,.lst d=>wLay S (c++d) Q|_,_=>False)|_=>False)|_,_=>False
def zrM(h:wBin S op x y Q):W (binD S op x y) Q:=by
 unfold wBin at h;unfold binD;split at h
 . unfold zrN zaZ at h;unfold binI;split at h<;>(try dsimp only)<;>first|exact h|(rw[if_pos h.1];exact h.2)|exact False.elim h
 split at h;exact zb1 h id;exact h.elim;split at h
 . let⟨o,e1,h⟩:=za9 h;let⟨u,e2,h⟩:=za9 h;simp![e1,e2];cases o<;>cases u<;>first|exact zjY h|exact h.elim
 exact h.elim;exact h.elim
abbrev wCmp(S:St)(op:CmpOp)(x y:D)(Q:Bool->Prop):Prop:=match x,y with|.int i,.int j=>(match cmpI op i j with|some k=>Q k|none=>False)| _,_=>(match op with|.Is=>(match cmpO S .Is x y with|some k=>Q k|none=>False)|.IsNot=>(match cmpO S .IsNot x y with|some k=>Q k|none=>False)|_=>wOpt (cmpO S op x y) Q)
def zro(h:∀i j,x=.int i->y=.int j->False):cmpD S op x y=cmpO S op x y:=by unfold cmpD;split;rename_i i j;exact(h i j rfl rfl).elim;rfl
def zj2(h:wCmp S op x y Q):∃k,cmpD S op x y=Φ k/\Q k:=by
 have fin:∀o:Option Bool,(match o with|some k=>Q k|none=>False)->∃k,o=Φ k/\Q k:=λo q=>by cases o with|none=>exact q.elim|some k=>exact⟨k,rfl,q⟩
 unfold wCmp at h;split at h;exact fin _ h;rename_i a;rw[zro a];split at h;exact fin _ h;exact fin _ h;unfold wOpt at h;cases e:cmpO S op x y with|none=>rw[e]at h;exact h.elim|some k=>rw[e]at h;exact⟨k,rfl,h⟩
def zoj(h:wCmp S op x y λk=>Q k S):W (lift S (cmpD S op x y)) Q:=by let⟨k,e,q⟩:=zj2 h;rw[e];exact q
abbrev wBi(S:St)(b:Bi)(ds:List D)(Q:D->St->Prop):Prop:=match b,ds with
 |.len,[x]=>(match x with
  |.tup ds=>Q (.int ds.length) S|.fix ds=>Q (.int ds.length) S|.ref l=>wGet S l λo=>(match o with|.lst ds=>Q (.int ds.length) S|_=>False)|_=>False)
 |.abs,[.int i]=>Q (.int (if i<0 then -i else i)) S|.max2,[.int i,.int j]=>Q (.int (if j>i then j else i)) S|.min2,[.int i,.int j]=>Q (.int (if j<i then j else i)) S|.isin t,[x]=>wOpt (tyOf S x) λa=>Q (.bl (a==t||(a=="bool"&&t=="int"))) S|_,_=>False
def zuh(h:wBi S b ds Q):W (bi S b ds) Q:=by
 unfold wBi at h;split at h
 all_goals
  repeat' first
  |exact h
  |exact h.elim
  |split at h
  |(let⟨o,e,h⟩:=za9 h;simp![bi,e])
abbrev wIsL(S:St)(x:D)(P:Prop):Prop:=match x with|.ref l=>wGet S l λo=>(match o with|.lst _=>P|_=>False)|_=>False
def zjZ(h:wIsL S x P):isL S x=Γ/\P:=by
 unfold wIsL at h;split at h
 . let⟨o,e,h⟩:=za9 h;cases o<;>first|exact⟨by simp![isL,e],h⟩|exact h.elim
 exact h.elim
abbrev wMt(S:St)(m:Mt)(x:D)(ds:List D)(Q:D->St->Prop):Prop:=match m,x,ds with
 |.append,.ref l,[y]=>wGet S l λo=>(match o with|.lst ds=>wWr S l (ds++[y]) .non Q|_=>False)
 |.popAt,.ref l,[.int i]=>wGet S l λo=>(match o with
  |.lst ds=>zaZ (0<=i) (wOpt ds[i.toNat]? λy=>wWr S l (ds.eraseIdx i.toNat) y Q)|_=>False)
 |.count,.ref l,[.int i]=>wGet S l λo=>(match o with
  |.lst ds=>wOpt (zbg ds) λos=>Q (.int (os.count (Φ i):Nat)) S|_=>False)
 |.count,.ref l,[.non]=>wGet S l λo=>(match o with
  |.lst ds=>wOpt (zbg ds) λos=>Q (.int (os.count Ψ:Nat)) S|_=>False)
 |_,_,_=>False
def zuf(h:wMt S m x ds Q):W (mt S m x ds) Q:=by
 unfold wMt at h;split at h
 all_goals
  repeat' first
  |exact h.elim
  |exact h
  |exact zpj h
  |refine zb1 h λh=>?_
  |(let⟨o,e,h⟩:=za9 h;simp![mt,e])
  |split at h
abbrev wSeq(S:St)(x:D)(k:List D->Prop):Prop:=match x with|.tup a=>k a|.fix a=>k a|.ref l=>wGet S l λo=>(match o with|.lst a=>k a|_=>False)|_=>False
def zjV(h:wSeq S x k):∃ds,zbh S x=Φ ds/\k ds:=by
 unfold wSeq at h;split at h;exact⟨_,rfl,h⟩;exact⟨_,rfl,h⟩
 . let⟨o,e,h⟩:=za9 h;cases o<;>first|exact⟨_,by simp![zbh,e],h⟩|exact h.elim
 exact h.elim
abbrev wTru(S:St)(x:D)(Q:Bool->Prop):Prop:=match x with|.bl b=>Q b|.non=>Q Δ|.int i=>Q (i != 0)|.tup a=>Q (!a.isEmpty)|.ref l=>wGet S l λo=>(match o with|.lst a=>Q (!a.isEmpty)|_=>False)|_=>False
def zrJ(h:wTru S x λk=>Q k S):W (lift S (tru S x)) Q:=by
 unfold wTru at h;split at h
 all_goals
  repeat' first
  |exact h
  |exact h.elim
  |split at h
  |(let⟨o,e,h⟩:=za9 h;simp![tru,e])
@[irreducible]def zi6{α:Type}(ls:List Nat)(S:St)(f:St->Out α)(Q:α->St->Prop):Prop:=W (zbj ls S f) Q
def zjX(h:zi6 ls S f Q):W (zbj ls S f) Q:=by unfold zi6 at h;exact h
def zat(h:W (f {S with lk:=ls++S.lk}) λa T=>Q a {T with lk:=S.lk}):zi6 ls S f Q:=by unfold zi6 zbj;rw[zab];exact h
section
variable(cf:CF)
mutual
noncomputable def wE(e₀:CE)(δ:Ev)(S:St)(Q:(D->St->Prop)):Prop:=match e₀ with
 |.loc i=>(match (δ[i]?).join with|some d=>Q d S|none=>False)|.con d=>Q d S|.tst _=>False|.bin op a b=>wE a δ S λx S1=>wE b δ S1 λy S2=>wBin S2 op x y Q|.neg a=>wE a δ S λx S1=>(match x with|.int i=>Q (.int (-i)) S1|_=>False)|.nt a=>wE a δ S λx S1=>(match x with|.bl b=>Q (.bl (!b)) S1|_=>False)|.cmp op a b=>wE a δ S λx S1=>wE b δ S1 λy S2=>wCmp S2 op x y λk=>Q (.bl k) S2|.cmp2 op op' a b c=>wE a δ S λx S1=>wE b δ S1 λy S2=>wCmp S2 op x y λk=>wIf k (wE c δ S2 λz S4=>wCmp S4 op' y z λk'=>Q (.bl k') S4) (Q (.bl Δ) S2)|.and a b=>wE a δ S λx S1=>(match x with|.bl k=>wIf k (wE b δ S1 Q) (Q (.bl Δ) S1)|_=>False)|.or a b=>wE a δ S λx S1=>(match x with|.bl k=>wIf k (Q (.bl Γ) S1) (wE b δ S1 Q)|_=>False)|.ite c a b=>wT c δ S λk S1=>wIf k (wE a δ S1 Q) (wE b δ S1 Q)|.tup es=>wEs es δ S λds S1=>zaZ (ds.length<=16777216) (Q (.tup ds) S1)|.lst es=>wEs es δ S λds S1=>wLay S1 ds Q|.dnew=>Q (.ref S.len) (S.push (.dic []))|.dnew3=>Q (.ref S.len) (S.push (.d3 []))|.srtK a=>wE a δ S λr S1=>wOpt (zgH S1 r) λq=>zaZ (q.2.length<64/\q.2.Nodup) (wLay S1 (srtD q.1 q.2) Q)|.dgetI a b c=>wE a δ S λx S1=>zaZ (isDi S1 x=Γ) (wE b δ S1 λy S2=>wE c δ S2 λz S3=>wOpt (zg2 S3 x y) λo=>Q (o.getD z) S3)|.dsetI a b c=>wE a δ S λx S1=>zaZ (isDi S1 x=Γ) (wE b δ S1 λy S2=>wE c δ S2 λz S3=>wOpt (zfZ S3 x y z) λo=>Q o.1 o.2)|.extv a b=>wE a δ S λx S1=>wIsL S1 x (wE b δ S1 λy S2=>wOpt (lsts S2 x y) λo=>wWr S2 o.1 (o.2.1++o.2.2) .non Q)|.fld a f=>wE a δ S λx S1=>wOpt ((zb0 S1 x).bind λp=>p.2.lookup f) λv=>Q v S1|.mk c f _ j es=>wEs es δ S λds S1=>wOut (appW cf f (.ref S1.len::(ds++List.replicate j .non)) (S1.push (.ins c []))) λd S2=>zaZ (zlH d=Γ) (Q (.ref S1.len) S2)|.meth m tb o es=>wE o δ S λx S1=>wOpt (zb0 S1 x) λp=>wOpt (tb.lookup p.1) λf=>zaZ ((p.2.lookup m).isNone=Γ) (wEs es δ S1 λds S2=>wOut (appW cf f (x::ds) S2) Q)|.callC f _ _ es=>wEs es δ S λds S1=>wOut (appW cf f ds S1) Q|.callV a es=>wE a δ S λx S1=>wEs es δ S1 λds S2=>wOpt (zdo x ds) λd=>Q d S2|.ix a b=>wE a δ S λx S1=>wE b δ S1 λy S2=>wSeq S2 x λds=>(match y with|.int i=>wOpt (atI ds i) λd=>Q d S2|_=>False)|.sl a n=>wE a δ S λx S1=>(match x with|.tup ds=>zaZ (n<ds.length) (Q (.tup (ds.take n)) S1)|_=>False)|.intb a=>wE a δ S λx S1=>(match x with|.bl b=>Q (.int (if b then 1 else 0)) S1|_=>False)
 |.slS a b=>wE a δ S λx S1=>wE b δ S1 λy S2=>(match x,y with
  |.ref p,.int k=>zaZ (k≠0) (wGet S2 p λo=>(match o with|.lst ds=>wLay S2 (stp ds k) Q|_=>False))|_,_=>False)
 |.call f j es=>wEs es δ S λds S1=>wOut (app cf f (ds++List.replicate j .non) S1) Q|.callW f j es=>wEs es δ S λds S1=>wOut (appW cf f (ds++List.replicate j .non) S1) Q|.bi b es=>wEs es δ S λds S1=>wBi S1 b ds Q|.mt m o es=>wE o δ S λx S1=>wIsL S1 x (wEs es δ S1 λds S2=>wMt S2 m x ds Q)|.mkL l=>wL l δ S λr S1=>wLay S1 r.1 Q|.mkT l=>wL l δ S λr S1=>zaZ (r.1.length<=16777216) (Q (.tup r.1) S1)|.all l=>wL l δ S λr S1=>wOpt (allD r.1) λb=>Q (.bl b) S1
 |.ext a l=>wE a δ S λx S1=>wIsL S1 x (wL l δ S1 λr S2=>(match x with
  |.ref p=>wGet S2 p λo=>(match o with|.lst ds=>wWr S2 p (ds++r.1) .non Q|_=>False)|_=>False))
 |.lenset l=>wL l δ S λr S1=>wOpt (zaD r.1) λis=>zaZ (is.length<4000) (Q (.int (dedup is).length) S1)|.sset a=>wE a δ S λr S1=>wOpt (lstI S1 r) λis=>zaZ (is.length<64) (wLay S1 ((zey (dedup is)).map .int) Q)
noncomputable def wEs(e₀:CEs)(δ:Ev)(S:St)(Q:(List D->St->Prop)):Prop:=match e₀ with|.nil=>Q [] S|.cons e r=>wE e δ S λd S1=>wEs r δ S1 λds S2=>Q (d::ds) S2
noncomputable def wT(e₀:CE)(δ:Ev)(S:St)(Q:(Bool->St->Prop)):Prop:=match e₀ with|.cmp op a b=>wE a δ S λx S1=>wE b δ S1 λy S2=>wCmp S2 op x y λk=>Q k S2|.cmp2 op op' a b c=>wE a δ S λx S1=>wE b δ S1 λy S2=>wCmp S2 op x y λk=>wIf k (wE c δ S2 λz S4=>wCmp S4 op' y z λk'=>Q k' S4) (Q Δ S2)|.nt a=>wT a δ S λk S1=>Q (!k) S1|.and a b=>wT a δ S λk S1=>wIf k (wT b δ S1 Q) (Q Δ S1)|.or a b=>wT a δ S λk S1=>wIf k (Q Γ S1) (wT b δ S1 Q)|.tst e=>wE e δ S λx S1=>wTru S1 x λk=>Q k S1|_=>False
noncomputable def wL(e₀:CL)(δ:Ev)(S:St)(Q:(List D×List Nat->St->Prop)):Prop:=match e₀ with
 |.val e=>wE e δ S λx S1=>wSeq S1 x λds=>Q (ds,lkOf S1 x) S1|.rng1 a=>wE a δ S λx S1=>(match x with|.int j=>zaZ (-(2^62)<=j/\j<2^62) (Q ((List.range j.toNat).map λ(k:Nat)=>.int k,[]) S1)|_=>False)
 |.rng2 a b=>wE a δ S λx S1=>wE b δ S1 λy S2=>(match x,y with
  |.int i,.int j=>zaZ (-(2^62)<=i/\i<2^62/\-(2^62)<=j/\j<2^62) (Q ((List.range (j-i).toNat).map λ(k:Nat)=>.int (i+k),[]) S2)|_,_=>False)
 |.enum a=>wE a δ S λx S1=>wOpt (zdn S1 x) λr=>Q r S1|.comp n js g it c e=>wL it δ S λr S1=>zi6 r.2 S1 (λS2=>zax g (evT cf c) (evE cf e) r.1 (csl n js δ) S2) λds S3=>zaZ (ds.length<=16777216) (Q (ds,[]) S3)
end
abbrev wS(o:CS)(δ:Ev)(S:St)(Q:(Fl->St->Prop)):Prop:=match o with|.nil=>Q (.nx δ) S|.stop=>False|.asg i e r=>wE cf e δ S λx h=>wS r (δ.set i (Φ x)) h Q|.asgT g e r=>wE cf e δ S λx h=>wOpt (asgG g x δ) λj=>wS r j h Q|.setIx a b e r=>wE cf e δ S λv h=>wE cf a δ h λx m=>wE cf b δ m λy n=>wOpt (zf0 n x y v) λp=>wS r δ p Q|.setF a f e r=>wE cf e δ S λv h=>wE cf a δ h λx m=>wOpt (zbU m x f v) λn=>wS r δ n Q|.ifS c t u r=>wT cf c δ S λk h=>wIf k (wS t δ h λf m=>(match f with|.nx j=>wS r j m Q|.rt d=>Q (.rt d) m)) (wS u δ h λf m=>(match f with|.nx j=>wS r j m Q|.rt d=>Q (.rt d) m))|.forS g l b r=>wL cf l δ S λq h=>zi6 q.2 h (λm=>zaM g (exS cf b) q.1 δ m) λf n=>(match f with|.nx j=>wS r j n Q|.rt d=>Q (.rt d) n)|.retN _=>Q (.rt .non) S|.ret e _=>wE cf e δ S λx h=>Q (.rt x) h|.expr e r=>wE cf e δ S λ_ h=>wS r δ h Q
end
section
variable{cf:CF}
def W.bnd(h:W o P)(k:∀a S,P a S->W (f a S) Q):W (o.bind f) Q:=by rw[zab];exact h.mono k
def zog(h:wOpt o k)(q:∀a,k a->W (f a S) Q):W ((lift S o).bind f) Q:=by let⟨a,rfl,g⟩:=za9 h;exact q a g
def zjW(h:wOpt o λa=>Q a S):W (lift S o) Q:=by rw[<-zrL];exact h
def zoh(h:wIsL S x P)(q:P->W o Q):W (if isL S x then o else .bad) Q:=by rw[if_pos (zjZ h).1];exact q (zjZ h).2
def zmy(h:wIf c A B)(a:A->W o Q)(b:B->W u Q):W (if c then o else u) Q:=by cases c with|true=>exact a h|false=>exact b h
def zug{o u:Out d}{f:d->St->Out e}{Q:e->St->Prop}(h:wIf c A B)(a:A->W (o.bind f) Q)(b:B->W (u.bind f) Q):W ((if c then o else u).bind f) Q:=by cases c with|true=>exact a h|false=>exact b h
def zoi(h:wCmp S op x y k)(q:∀b,k b->W (f b S) Q):W ((lift S (cmpD S op x y)).bind f) Q:=by let⟨b,e,h⟩:=zj2 h;rw[e];exact q b h
def zrK(h:wSeq S x k)(q:∀b,k b->W (f b S) Q):W ((lift S (zbh S x)).bind f) Q:=by let⟨b,e,h⟩:=zjV h;rw[e];exact q b h
def zof(h:wOut o Q):W o Q:=by unfold wOut at h;exact h
mutual
theorem wE_W(e:CE){δ:Ev}{S:St}{Q:D->St->Prop}(h:wE cf e δ S Q):W (evE cf e δ S) Q:=by
 cases e with
 |loc i=>
  show W (lift S _) Q;conv at h=>whnf
  split at h;rename_i e;rw[e];exact h;exact h.elim
 |ix a b=>refine W.bnd (wE_W a h) λx S1 h=>W.bnd (wE_W b h) λy S2 h=>?_;let⟨ds,e,h⟩:=zjV h;rw[e];cases y with|int i=>exact zjW h|_=>exact h.elim
 |slS a b=>
  refine W.bnd (wE_W a h) λx S1 h=>W.bnd (wE_W b h) λy S2 h=>?_;split at h
  . unfold zaZ at h;(try dsimp only);rw[if_neg h.1];let⟨o,e,h⟩:=za9 h.2;simp![e];cases o<;>first|exact zjY h|exact h.elim
  exact h.elim
 |ext a l=>
  refine W.bnd (wE_W a h) λx S1 h=>zoh h λh=>W.bnd (wL_W l h) λr S2 h=>?_;cases x with
  |ref p=>let⟨o,e,h⟩:=za9 h;simp![e];cases o<;>first|exact zpj h|exact h.elim
  |_=>exact h.elim
 |_=>
  conv at h=>whnf
  first
  |exact h
  |exact h.elim
  |refine W.bnd (wE_W _ h) λ_ _ h=>?_|refine W.bnd (zj1 _ h) λ_ _ h=>?_|refine W.bnd (wL_W _ h) λ_ _ h=>?_|refine W.bnd (wT_W _ h) λ_ _ h=>?_
  repeat' first
  |exact h
  |exact h.elim
  |exact zrM h
  |exact zuh h
  |exact zuf h
  |exact zjY h
  |exact zpj h
  |exact zof h
  |exact zjW h
  |exact wE_W _ h
  |refine W.bnd (wE_W _ h) λ_ _ h=>?_|refine W.bnd (zj1 _ h) λ_ _ h=>?_|refine W.bnd (zof h) λ_ _ h=>?_|refine zoi h λ_ h=>?_|refine zog h λ_ h=>?_|refine zb1 h λh=>?_|refine zoh h λh=>?_|refine zmy h (λh=>?_) λh=>?_
  |split at h
theorem zj1(es:CEs){δ:Ev}{S:St}{Q:List D->St->Prop}(h:wEs cf es δ S Q):W (evEs cf es δ S) Q:=by cases es with|nil=>exact h|cons e r=>exact W.bnd (wE_W e h) λ_ _ h=>W.bnd (zj1 r h) λ_ _ h=>h
theorem wT_W(e:CE){δ:Ev}{S:St}{Q:Bool->St->Prop}(h:wT cf e δ S Q):W (evT cf e δ S) Q:=by cases e with|cmp op a b=>exact W.bnd (wE_W a h) λ_ _ h=>W.bnd (wE_W b h) λ_ _ h=>zoj h|cmp2 op op' a b c=>exact W.bnd (wE_W a h) λ_ _ h=>W.bnd (wE_W b h) λ_ _ h=>zoi h λ_ h=>zmy h (λh=>W.bnd (wE_W c h) λ_ _ h=>zoj h) λh=>h|nt a=>exact W.bnd (wT_W a h) λ_ _ h=>h|and a b=>exact W.bnd (wT_W a h) λ_ _ h=>zmy h (wT_W b) λh=>h|or a b=>exact W.bnd (wT_W a h) λ_ _ h=>zmy h (λh=>h) (wT_W b)|tst e=>exact W.bnd (wE_W e h) λ_ _ h=>zrJ h|_=>exact h.elim
theorem wL_W(l:CL){δ:Ev}{S:St}{Q:List D×List Nat->St->Prop}(h:wL cf l δ S Q):W (evL cf l δ S) Q:=by
 cases l with
 |val e=>exact W.bnd (wE_W e h) λ_ _ h=>zrK h λ_ h=>h| rng1 a=>refine W.bnd (wE_W a h) λx _ h=>?_;cases x<;>first|exact zb1 h λh=>h|exact h.elim
 |rng2 a b=>refine W.bnd (wE_W a h) λx _ h=>W.bnd (wE_W b h) λy _ h=>?_;cases x<;>first|exact h.elim|(cases y<;>first|exact zb1 h λh=>h|exact h.elim)
 |enum a=>exact W.bnd (wE_W a h) λ_ _ h=>zjW h|comp n js g it c e=>exact W.bnd (wL_W it h) λ_ _ h=>W.bnd (zjX h) λ_ _ h=>zb1 h λh=>h
end
def wS_W(s)(h:wS cf s δ S Q):W (exS cf s δ S) Q:=by
 induction s generalizing δ S Q with
 |nil=>exact h|stop=>exact h.elim|asg i e r d=>exact W.bnd (wE_W e h) λ_ _ h=>d h|asgT g e r d=>exact W.bnd (wE_W e h) λ_ _ h=>zog h λ_ h=>d h|setIx a b e r d=>exact W.bnd (wE_W e h) λ_ _ h=>W.bnd (wE_W a h) λ_ _ h=>W.bnd (wE_W b h) λ_ _ h=>(za9 h).elim λ_ h=>by rw[h.1];exact d h.2|setF a f e r d=>exact W.bnd (wE_W e h) λ_ _ h=>W.bnd (wE_W a h) λ_ _ h=>(za9 h).elim λ_ h=>by rw[h.1];exact d h.2| ifS c t u r j k d=>
  refine W.bnd (wT_W c h) λ_ _ h=>zug h (λh=>W.bnd (j h) λf _ h=>?_) λh=>W.bnd (k h) λf _ h=>?_
  all_goals
   cases f with|nx=>exact d h|rt=>exact h
 |forS g l b r m d=>refine W.bnd (wL_W l h) λ_ _ h=>W.bnd (zjX h) λf _ h=>?_;cases f with|nx=>exact d h|rt=>exact h
 |retN=>exact h|ret e=>exact W.bnd (wE_W e h) λ_ _ h=>h|expr e r d=>exact W.bnd (wE_W e h) λ_ _ h=>d h
@[irreducible]def wFin(S:St)(r:Fl)(T:St)(Q:D->St->Prop):Prop:=W (fin S r T) Q
def zf7(h:P[f]?=Φ F)(a:ds.length=F.np)(w:wS (callF P n) F.body (za5 F ds) S.enter λr T=>wFin S r T Q)(b:F.prim=Ψ:=by rfl):
  W (app (callF P (n+1)) f ds S) Q:=by
 rw[zmu h a b,zab];refine(wS_W _ w).mono λr T q=>?_;unfold wFin at q;exact q
def zaY(h:P[f]?=Φ F)(b:ds.length=F.np)(w:wS (callF P n) F.body (za5 F ds) S.enter λr T=>wFin S r T λa c=>a=d/\c=e)(g:F.prim=Ψ:=by rfl):
 app (callF P (n+1)) f ds S=.ok d e:=W.eq (zf7 h b w g)
def zak(h:flat S.len d=Γ)(q:Q d S):wFin S (.rt d) T Q:=by unfold wFin;rw[zlZ,zjD S d T h];exact q
def zdG(c:S.len<=l)(a:T.get l=Φ (.lst ds))(h:flats S.len ds=Γ)(q:Q (.ref S.len) (S.push (.lst ds))):wFin S (.rt (.ref l)) T Q:=by
 have b:flat S.len (.ref l)=Δ:=by simp[flat];omega
 unfold wFin;rw[zlZ];unfold zcG;simp![b,a,h,if_true,Ρ,if_false];exact q
def zcg(a:nw[i]?=Φ (.lst ds))(h:flats S.len ds=Γ)(q:Q (.ref S.len) (S.push (.lst ds))):
  wFin S (.rt (.ref ((S.frz++S.new).length+i))) (St.mk (S.frz++S.new) nw lk) Q:=
 zdG (by rw[zd7];lia) ((zhU _ nw lk i).trans a) h q
def zgb(c:S.len<=l)(a:T.get l=Φ (.lst ds))(h:flats S.len ds=Δ)(q:Q (.ref l) ⟨S.frz,S.new++T.new,S.lk⟩):wFin S (.rt (.ref l)) T Q:=by
 have b:flat S.len (.ref l)=Δ:=by simp[flat];omega
 unfold wFin;rw[zlZ];unfold zcG;simp![b,a,h,Ρ,if_false];exact q
end
structure Frm(S S':St):Prop where
 frz:S'.frz=S.frz
 lk:S'.lk=S.lk
 len:S.new.length<=S'.new.length
 same:∀l∈S.lk,l<S.len->S'.get l=S.get l
def Frm.refl(S):Frm S S:=⟨rfl,rfl,le_refl _,λ_ _ _=>rfl⟩
def Frm.lens(h:Frm S a):S.len<=a.len:=by unfold St.len;rw[h.frz];have:=h.len;lia
def Frm.trans(a:Frm S S1)(b:Frm S1 d):Frm S d:=⟨b.frz.trans a.frz,b.lk.trans a.lk,le_trans a.len b.len,λl c h=>(b.same l (by rw[a.lk];exact c) (lt_of_lt_of_le h a.lens)).trans (a.same l c h)⟩
def Frm.push(S)(o):Frm S (S.push o):=by refine⟨rfl,rfl,by simp[St.push],λl _ h=>?_⟩;unfold St.len at h;unfold St.get St.push;simp only;split;rfl;rw[getElem?_append_left (by omega)]
def Frm.put(h:S.put l o=Φ a):Frm S a:=by
 unfold St.put at h;split at h;exact nS h;split at h;exact nS h;rename_i f b;injection h with h;subst h;refine⟨rfl,rfl,by simp,λm c g=>?_⟩;have d:m≠l:=λe=>by subst e;exact b (by simpa using c)
 unfold St.get;simp only;split;rfl;rw[getElem?_set_ne (by lia)]
def Frm.keep(S T:St):Frm S ⟨S.frz,S.new++T.new,S.lk⟩:=by refine⟨rfl,rfl,by simp,λl _ h=>?_⟩;unfold St.len at h;unfold St.get;simp only;split;rfl;rw[getElem?_append_left (by omega)]
abbrev Fr{b:Type}(S:St)(o:Out b):Prop:=∀a T,o=.ok a T->Frm S T
section
variable{α β:Type}{S T:St}{o:Out α}
def Fr.of(h:Frm S T):Fr S (.ok a T):=λ_ _ e=>by cases e;exact h
def Fr.ok:Fr S (.ok a S):=.of (.refl S)
def Fr.bad:Fr S (.bad:Out α):=λ_ _ e=>by cases e
def Fr.to(h:Frm S T)(k:Fr T o):Fr S o:=λa U e=>h.trans (k a U e)
def Fr.bind(h:Fr S o)(k:∀a T,Fr T (f a T)):Fr S (o.bind f):=by cases o with|ok a T=>exact .to (h a T rfl) (k a T)|_=>exact λ_ _ e=>by cases e
def Fr.w(f:Fr S o)(h:W o Q):W o λa T=>Q a T/\Frm S T:=by cases o with|ok a T=>exact⟨h,f a T rfl⟩|_=>exact h
def Fr.lift{o:Option α}:Fr S (lift S o):=by cases o with|none=>exact .bad|some=>exact .ok
def Fr.lock(h:∀S,Fr S (f S)):Fr S (zbj ls S f):=by unfold zbj;cases e:f {S with lk:=ls++S.lk} with|ok a T=>exact .of (have h:=h _ a T e;⟨h.frz,rfl,h.len,λl b c=>h.same l (mem_append_right _ b) c⟩)|_=>exact λ_ _ e=>by cases e
def ztK:Fr S (lay S ds):=by unfold lay;split;exact .of (.push _ _);exact .bad
def frWr:Fr S (wr S l ds d):=by
 unfold wr
 repeat' first
 |exact .bad
 |exact .of (.put (by assumption))
 |split
def zu1:Fr S (binD S op x y):=by
 unfold binD binI
 repeat' first
 |exact .bad
 |exact .ok
 |exact ztK
 |split
def frBi:Fr S (bi S b ds):=by
 cases b<;>rcases ds with _|⟨x,_|⟨y,_|⟨z,_⟩⟩⟩
 all_goals first
 |exact .bad
 |exact .ok
 |(unfold bi;dsimp only;split<;>first|exact .bad|exact .ok|(split<;>first|exact .bad|exact .ok))
 |(cases x<;>first|exact .bad|exact .ok|(cases y<;>first|exact .bad|exact .ok))
def frMt:Fr S (mt S m x ds):=by
 cases m<;>cases x<;>(try exact .bad)<;>rcases ds with _|⟨y,_|⟨z,_⟩⟩
 all_goals first
 |exact .bad
 |(unfold mt;dsimp only;split<;>first|exact .bad|exact frWr)
 |(cases y<;>first
  |exact .bad
  |(unfold mt;dsimp only;repeat' first
   |exact .bad
   |exact .ok
   |exact frWr
   |split))
def zu0(h:zbU S x f v=Φ T):Frm S T:=by
 unfold zbU at h
 repeat' first
 |exact .put h
 |exact nS h
 |split at h
def zuZ(h:dPut S x y v=Φ T):Frm S T:=by
 unfold dPut Option.bind at h
 repeat' first
 |exact .put h
 |exact nS h
 |split at h
 |dsimp only at h
def ztJ(h:zf0 S x y v=Φ T):Frm S T:=by
 unfold zf0 Option.bind at h
 repeat' first
 |exact .put h
 |exact nS h
 |split at h
 |dsimp only at h
def zuY:Fr S ((R.lift S (zfZ S x y v)).bind λo _=>.ok o.1 o.2):=by
 unfold zfZ;split;exact .ok;cases e:dPut S x y v with|none=>exact .bad|some=>exact .of (zuZ e)
 exact .bad
def zra:Fr S (zcG S d T):=by
 unfold zcG;dsimp only
 repeat' first
 |exact .ok
 |exact .of (.push _ _)
 |exact .of (.keep _ _)
 |split
def zu2:Fr S (app cf f ds S):=by unfold app;cases cf f ds S.enter with|ok=>exact zra|_=>exact λ_ _ e=>by cases e
def frC(a:∀δ S,Fr S (c δ S))(b:∀δ S,Fr S (e δ S))(xs)(δ)(S):Fr S (zax g c e xs δ S):=by
 induction xs generalizing δ S with
 |nil=>exact .ok| cons x xs d=>
  unfold zax
  repeat' first
  |exact .bad
  |exact .ok
  |exact d _ _
  |exact a _ _
  |exact b _ _
  |refine Fr.bind ?_ λ_ _=>?_
  |split
def frF(a:∀δ S,Fr S (b δ S))(xs)(δ)(S):Fr S (zaM g b xs δ S):=by
 induction xs generalizing δ S with
 |nil=>exact .ok| cons x xs c=>
  unfold zaM
  repeat' first
  |exact .bad
  |exact .ok
  |exact c _ _
  |exact a _ _
  |refine Fr.bind ?_ λ_ _=>?_
  |split
end
abbrev CFok(cf:CF):Prop:=∀f a S d T,cf f a S=.ok d T->Frm S T
section
variable{cf:CF}(hcf:CFok cf)
include hcf
def frW{f:Nat}{ds:List D}{S:St}:Fr S (appW cf f ds S):=by unfold appW;exact hcf f ds S
mutual
theorem frE(e:CE)(δ:Ev)(S:St):Fr S (evE cf e δ S):=by
 cases e
 all_goals
  first
  |exact .ok
  |exact .bad
  |exact .lift
  |exact .of (.push _ _)
  |refine Fr.bind ?_ λ_ _=>?_
 all_goals
  repeat' first
  |exact .ok
  |exact .bad
  |exact .lift
  |exact frE _ _ _
  |exact frEs _ _ _
  |exact frT _ _ _
  |exact frL _ _ _
  |exact zu1
  |exact frBi
  |exact frMt
  |exact ztK
  |exact frWr
  |exact zu2
  |exact frW hcf
  |exact .to (.push _ _) (frW hcf)
  |exact zuY
  |refine Fr.bind ?_ λ_ _=>?_
  |split
theorem frEs(e:CEs)(δ:Ev)(S:St):Fr S (evEs cf e δ S):=by cases e with|nil=>exact .ok|cons e r=>exact .bind (frE e δ S) λ_ T=>.bind (frEs r δ T) λ_ _=>.ok
theorem frT(e:CE)(δ:Ev)(S:St):Fr S (evT cf e δ S):=by
 cases e
 all_goals
  first
  |exact .bad
  |refine Fr.bind ?_ λ_ _=>?_
 all_goals
  repeat' first
  |exact .ok
  |exact .lift
  |exact frE _ _ _
  |exact frT _ _ _
  |refine Fr.bind ?_ λ_ _=>?_
  |split
theorem frL(e:CL)(δ:Ev)(S:St):Fr S (evL cf e δ S):=by
 cases e
 all_goals
  refine Fr.bind ?_ λ_ _=>?_
  all_goals
   repeat' first
   |exact .ok
   |exact .bad
   |exact .lift
   |exact frE _ _ _
   |exact frL _ _ _
   |exact .lock λ_=>frC (λδ S=>frT _ δ S) (λδ S=>frE _ δ S) _ _ _|refine Fr.bind ?_ λ_ _=>?_
   |split
end
def frS(s:CS)(δ:Ev)(S:St):Fr S (exS cf s δ S):=by
 cases s
 all_goals
  first
  |exact .ok
  |exact .bad
  |refine Fr.bind ?_ λ_ _=>?_
 all_goals
  repeat' first
  |exact .ok
  |exact .bad
  |exact .lift
  |exact frE hcf _ _ _
  |exact frT hcf _ _ _
  |exact frL hcf _ _ _
  |exact frS _ _ _
  |exact .to (ztJ (by assumption)) (frS _ _ _)
  |exact .to (zu0 (by assumption)) (frS _ _ _)
  |exact .lock λ_=>frF (λδ S=>frS _ δ S) _ _ _|refine Fr.bind ?_ λ_ _=>?_
  |split
end
end R
namespace R
open PySem L2
abbrev KL(K:Frag)(a:Addr)(xs:List V):Prop:=∃(o:Obj) (b:Array Ξ) (n:Nat),K.lookup a=Φ o/\o.cls=.type "list"/\o.dict=Ψ/\o.data=.seq b n/\b.size<=sizeLine/\Vals xs b.toList
abbrev FixL(K:Frag)(H:Hp)(a:Addr)(xs:List V):Prop:=(∃o,H a=Φ (.frz o (.lst xs)))\/KL K a xs
def FixL.sq(h:FixL K H a xs):SqL K H a xs:=h.elim (λz=>(by let⟨o,e⟩:=z;exact .inl (.inr ⟨o,e⟩))) .inr
noncomputable abbrev arrN:Str:="word_on_arrival"
noncomputable abbrev arrQ:Str:="road.<locals>.word_on_arrival"
structure CloSt(st:Stmt):Prop where
 body:∃(x6:Nat) (p1 p2 p3 p4 p5 p6 p7 p8 p9:Pos),zaj st=[.Return (Φ (.Call (.Attribute (.Name "last" p1) "get" p2) [.Tuple [.Name "turn" p3,.Name "path" p4,.Name "to" p5] x6 p6,.Name "word" p7] [] p8)) p9]/\(p2.endLine==p8.line)=Γ
 kind:(zaa st).kind=.function
 co:(zaa st).isCoroutine=Δ
 gen:(zaa st).isGenerator=Δ
 cell:∀y∈(zaa st).names,y.2≠.cell
 free:∀y∈(zaa st).names,y.2=.free->y.1=("last":Str)
 l0:(zaa st).names.lookup ("turn":Str)=Φ .local
 l1:(zaa st).names.lookup ("path":Str)=Φ .local
 l2:(zaa st).names.lookup ("to":Str)=Φ .local
 l3:(zaa st).names.lookup ("word":Str)=Φ .local
 l4:(zaa st).names.lookup ("last":Str)=Φ .free
 bind:∀(cl:List (Str×Addr))(doc pm cd ct a b c d:Ξ),bindArgs (PySem.W.fnX arrN arrQ (zaq st) (zaj st) (zaa st) cl .none .none doc pm Ψ cd ct) ⟨[a,b,c,d],[]⟩=pure [(("turn":Str),a),(("path":Str),b),(("to":Str),c),(("word":Str),d)]
 text:∃pos:Pos,st=.FunctionDef arrN (zaq st) (zaj st) [] Ψ [] (zaa st) Ψ arrN pos
 d0:(zaq st).defaults=[]
 k0:(zaq st).kw_defaults=[]
 an:∀env:Env,annTrees (zaq st) Ψ env=[]
 clo:∀(env:Env)(c:Addr),env.cells.lookup ("last":Str)=Φ c->closureFor (zaa st) env=pure [(("last":Str),c)]
abbrev RsOk:Option Stmt->Prop
 |none=>True|some st=>CloSt st
class Mks where
 ts:List (Addr×Str)
 cl:List Addr
 rs:Option Stmt
 ro:RsOk rs
variable[Mks]
abbrev TabIn(H:Hp)(P:Addr)(q:Str):Prop:=∃a:Array Ξ,H P=Φ (.tbl a)/\TriplesOk a.toList/\
 ∀(pos:Pos)(v:Ξ),codeAmong pos a.toList=Φ v->∃(c:Addr) (b:Obj) (d:Array Ξ) (t:Tok),v=.ref c/\H c=Φ (.frz b (.own 0))/\b.data=.fields d/\d[1]?=Φ (.str q t)
def TabIn.up(t:TabIn H P q)(e:H' P=H P)(f:∀b o u,H b=Φ (.frz o u)->H' b=Φ (.frz o u)):TabIn H' P q:=by let⟨a,d,g,h⟩:=t;refine⟨a,by rw[e];exact d,g,λpos v i=>?_⟩;let⟨c,j,k,t,l,m,n⟩:=h pos v i;exact⟨c,j,k,t,l,f _ _ _ m,n⟩
abbrev TB(H:Hp):Prop:=∀p∈Mks.ts,TabIn H p.1 p.2
structure Kp(H H':Hp):Prop where
 tups:Tups H H'
 frzs:∀b o u,H b=Φ (.frz o u)->H' b=Φ (.frz o u)
 tab:TB H->TB H'
def Kp.refl(H):Kp H H:=⟨Tups.refl H,λ_ _ _ h=>h,λh=>h⟩
def Kp.trans(a:Kp H d)(b:Kp d e):Kp H e:=⟨a.tups.trans b.tups,λc o u h=>b.frzs c o u (a.frzs c o u h),λh=>b.tab (a.tab h)⟩
def Kp.same(a:Tups H H')(b:∀b o u,H b=Φ (.frz o u)->H' b=Φ (.frz o u))(c:∀P ps,H P=Φ (.tbl ps)->H' P=Φ (.tbl ps)):Kp H H':=⟨a,b,λh p d=>by let⟨ps,e,_⟩:=id (h p d);exact(h p d).up ((c _ _ e).trans e.symm) b⟩
def FixL.kp(h:FixL K H a xs)(k:Kp H H'):FixL K H' a xs:=h.elim (λz=>(by let⟨o,e⟩:=z;exact .inl ⟨o,k.frzs _ _ _ e⟩)) .inr
abbrev vW:Option Int->V
 |none=>.non|some i=>.int i
abbrev W3s(H:Hp):List (K3×Option Int)->List (K3×Addr×V)->Prop
 | [],a=>a=[]|(k,o)::r,a=>∃c w,a=(k,c,vW o)::w/\Key3 H k c/\W3s H r w
def W3s.up(d:∀b xs,H b=Φ (.tup xs)->H' b=Φ (.tup xs)):∀{kvs:List (K3×Option Int)}{a:List (K3×Addr×V)},W3s H kvs a->W3s H' kvs a
 | [],_,r=>r| (k,o)::kvs,a,r=>by let⟨c,w,e,f,g⟩:=r;exact⟨c,w,e,f.up d,W3s.up d g⟩
abbrev CloF(H:Hp)(f c:Addr):Prop:=∃(st:Stmt) (g h a:Ξ) (b:Addr) (d:Obj) (e:Array Ξ) (t:Tok),Mks.rs=Φ st/\H f=Φ (.frz (PySem.W.fnMade arrN arrQ (zaq st) (zaj st) (zaa st) [(("last":Str),c)] a g b h) (.own 0))/\H b=Φ (.frz d (.own 0))/\d.data=.fields e/\e[1]?=Φ (.str arrQ t)
abbrev CloAt(H:Hp)(f:Addr)(kvs:List (K3×Option Int)):Prop:=∃(c d:Addr) (a e:Obj) (b:List (K3×Addr×V)),CloF H f c/\H c=Φ (.frz a (.own 0))/\a.data=.cell (Φ (.ref d))/\H d=Φ (.frz e (.ext (TriO d b)))/\W3s H kvs b
def CloF.up(h:CloF H f c)(k:∀b o u,H b=Φ (.frz o u)->H' b=Φ (.frz o u)):CloF H' f c:=by let⟨st,d,e,a,g,i,j,t,l,m,n,p⟩:=h;exact⟨st,d,e,a,g,i,j,t,l,k _ _ _ m,k _ _ _ n,p⟩
def CloAt.kp(h:CloAt H f kvs)(k:Kp H H'):CloAt H' f kvs:=by let⟨c,d,a,b,e,g,i,j,l,m⟩:=h;exact⟨c,d,a,b,e,g.up k.frzs,k.frzs _ _ _ i,j,k.frzs _ _ _ l,m.up k.tups⟩
mutual
noncomputable def RV(K:Frag)(ι:List Addr)(H:Hp):D->V->Prop
 |.non,v=>v=.non|.bl b,v=>v=.bl b|.int i,v=>v=.int i|.tup ds,v=>∃a xs,v=.ref a/\H a=Φ (.tup xs)/\RVs K ι H ds xs|.ref l,v=>∃a,ι[l]?=Φ a/\v=.ref a|.fix ds,v=>∃a xs,v=.ref a/\FixL K H a xs/\RVs K ι H ds xs|.clo kvs,v=>∃f,v=.ref f/\CloAt H f kvs
noncomputable def RVs(K:Frag)(ι:List Addr)(H:Hp):List D->List V->Prop
 | [],vs=>vs=[]|d::ds,vs=>∃v r,vs=v::r/\RV K ι H d v/\RVs K ι H ds r
end
abbrev RPs{c a:Type}(e:c->a->Prop)(f:a->V)(K:Frag)(ι:List Addr)(H:Hp):List (c×D)->List a->Prop
 | [],b=>b=[]|(k,d)::r,b=>∃g w,b=g::w/\e k g/\RV K ι H d (f g)/\RPs e f K ι H r w
@[reducible]def RIs(K:Frag)(ι:List Addr)(H:Hp):List (Int×D)->List (Key×V)->Prop:=RPs (λk g=>Sum.inl k=g.1) (·.2) K ι H
@[reducible]def R3s(K:Frag)(ι:List Addr)(H:Hp):List (K3×D)->List (K3×Addr×V)->Prop:=RPs (λk g=>k=g.1/\Key3 H k g.2.1) (·.2.2) K ι H
@[reducible]def RFs(K:Frag)(ι:List Addr)(H:Hp):List (Str×D)->List (Str×V)->Prop:=RPs (λf g=>f=g.1) (·.2) K ι H
abbrev RO(K:Frag)(ι:List Addr)(H:Hp)(a:Addr):MO->Prop
 |.lst f=>∃e,H a=Φ (.lst e)/\RVs K ι H f e|.dic b=>(b.map (·.1)).Nodup/\∃d,H a=Φ (.dK d)/\RIs K ι H b d|.ins c g=>∃C h d,Mks.cl[c]?=Φ C/\H a=Φ (.ins C h d)/\RFs K ι H g d|.d3 b=>(b.map (·.1)).Nodup/\∃d,H a=Φ (.ext (TriO a d))/\R3s K ι H b d
structure RH(K:Frag)(ι:List Addr)(H:Hp)(S:St):Prop where
 len:ι.length=S.len
 nd:ι.Nodup
 obj:∀l o,S.get l=Φ o->∃a,ι[l]?=Φ a/\RO K ι H a o
 tab:TB H
structure Ext(ι:List Addr)(H:Hp)(ι':List Addr)(H':Hp):Prop where
 pre:ι <+: ι'
 kp:Kp H H'
 rest:∀a o,a∉ι->H a=Φ o->(H' a=Φ o\/((∃ps,o=.tbl ps)/\∃ps,H' a=Φ (.tbl ps)))/\a∉ι'
def Ext.refl(ι)(H):Ext ι H ι H:=⟨Ϡ _,Kp.refl H,λa o h e=>⟨.inl e,h⟩⟩
def Ext.trans(a:Ext ι H f j)(b:Ext f j g k):Ext ι H g k:=⟨a.pre.trans b.pre,a.kp.trans b.kp,λx o h e=>by let⟨c,i⟩:=a.rest x o h e;rcases c with c|⟨t,l,c⟩;exact b.rest x o i c;let⟨d,m⟩:=b.rest x _ i c;refine⟨.inr ⟨t,?_⟩,m⟩;rcases d with d|⟨_,d⟩;exact⟨l,d⟩;exact d⟩
def Ext.keep(x:Ext ι H b c)(h:a∉ι)(e:H a=Φ o)(n:∀ps,o≠.tbl ps):c a=Φ o:=(x.rest a o h e).1.elim id λk=>(by let⟨⟨ps,z⟩,_⟩:=k;exact absurd z (n ps))
def zbP(h:ι <+: b){l:Nat}{a:Addr}(e:ι[l]?=Φ a):b[l]?=Φ a:=by let⟨t,rfl⟩:=h;rw[getElem?_append_left (Α.mp e).1];exact e
mutual
theorem RV.up{K:Frag}{ι ι':List Addr}{H H':Hp}(hp:ι <+: ι')(hk:Kp H H'):∀{d:D}{v:V},RV K ι H d v->RV K ι' H' d v
 |.non,_,r=>r|.bl _,_,r=>r|.int _,_,r=>r| .tup ds,_,r=>by let⟨a,xs,e,ha,q⟩:=r;exact⟨a,xs,e,hk.tups _ _ ha,RVs.up hp hk q⟩| .ref l,_,r=>by let⟨a,e,q⟩:=r;exact⟨a,zbP hp e,q⟩| .fix ds,_,r=>by let⟨a,xs,e,ha,q⟩:=r;exact⟨a,xs,e,ha.kp hk,RVs.up hp hk q⟩| .clo kvs,_,r=>by let⟨f,e,h⟩:=r;exact⟨f,e,h.kp hk⟩
theorem RVs.up{K:Frag}{ι ι':List Addr}{H H':Hp}(hp:ι <+: ι')(hk:Kp H H'):∀{ds:List D}{vs:List V},RVs K ι H ds vs->RVs K ι' H' ds vs
 | [],_,r=>r| d::ds,vs,r=>by let⟨v,w,e,r1,r2⟩:=r;exact⟨v,w,e,RV.up hp hk r1,RVs.up hp hk r2⟩
end
def RPs.upG{f a}{h}(i:ι <+: b)(j:Kp H H')(l:∀k g,f k g->a k g):∀{kvs:List (p×D)}{c:List q},RPs f h K ι H kvs c->RPs a h K b H' kvs c
 | [],_,r=>r| (k,d)::kvs,c,r=>by let⟨g,w,e,m,n,o⟩:=r;exact⟨g,w,e,l k g m,RV.up i j n,RPs.upG i j l o⟩
section
variable{K:Frag}{ι ι':List Addr}{H H':Hp}
def RPs.up(a:ι <+: ι')(b:Kp H H')(r:RPs c d K ι H kvs e):RPs c d K ι' H' kvs e:=r.upG a b λ_ _ h=>h
def R3s.up(b:ι <+: ι')(a:Kp H H')(r:R3s K ι H kvs c):R3s K ι' H' kvs c:=RPs.upG b a (λ_ _ h=>⟨h.1,h.2.up a.tups⟩) r
end
def RPs.length:∀{kvs:List (c×D)}{a:List e},RPs f h K ι H kvs a->a.length=kvs.length
 | [],_,r=>by rw[show _=[] from r];rfl| (k,d)::kvs,a,r=>by let⟨g,w,rfl,_,_,b⟩:=r;simp[RPs.length b]
def R3s.keys:∀{kvs:List (K3×D)}{a:List (K3×Addr×V)},R3s K ι H kvs a->a.map (·.1)=kvs.map (·.1)
 | [],_,r=>by rw[show _=[] from r];rfl| (k,d)::kvs,a,r=>by let⟨⟨_,c,v⟩,w,rfl,⟨rfl,_⟩,_,b⟩:=r;simp[R3s.keys b]
def R3s.triK:∀{kvs:List (K3×D)}{a:List (K3×Addr×V)},R3s K ι H kvs a->TriK H a
 | [],_,r=>by rw[show _=[] from r];intro x b;cases b
 |(k,d)::kvs,a,r=>by let⟨⟨_,c,v⟩,w,rfl,⟨rfl,f⟩,_,g⟩:=r;intro x b;rcases mem_cons.mp b with e|e;subst e;exact f;exact R3s.triK g x e
def R3s.put(q:RV K ι H d v)(n:Key3 H k c)(r:R3s K ι H kvs a):R3s K ι H (zhC kvs k d) (put3 a k c v):=by
 unfold zhC put3;rw[r.keys];split;rename_i i;clear i;induction kvs generalizing a with|nil=>rw[show a=[] from r];rfl| cons x kvs b=>let⟨j,e⟩:=x;let⟨⟨_,m,u⟩,w,rfl,⟨rfl,f⟩,l,h⟩:=r;rw[Ν,Ν];by_cases z:j=k;rw[if_pos z,if_pos z];exact⟨(j,m,v),_,rfl,⟨rfl,f⟩,q,b h⟩;rw[if_neg z,if_neg z];exact⟨(j,m,u),_,rfl,⟨rfl,f⟩,l,b h⟩
 rename_i i;clear i;induction kvs generalizing a with|nil=>rw[show a=[] from r];exact⟨(k,c,v),[],rfl,⟨rfl,n⟩,q,rfl⟩| cons x kvs b=>let⟨j,e⟩:=x;let⟨g,w,rfl,f,l,h⟩:=r;exact⟨g,_,rfl,f,l,b h⟩
def zhB(h:(kvs.map (·.1)).Nodup):((zhC kvs k d).map (·.1)).Nodup:=by unfold zhC;split;rw[map_map,show((λx:K3×D=>x.1)∘λx=>if x.1=k then(x.1,d) else x)=λx=>x.1 from by funext x;show(if x.1=k then(x.1,d) else x).1=x.1;split<;>rfl];exact h;rename_i n;rw[map_append,nodup_append];refine⟨h,by simp,λa e b c=>?_⟩;simp![Ν,map_nil,mem_singleton]at c;subst c;exact λz=>n (z▸e)
def RFs.look(f):∀{a:List (Str×D)}{b:List (Str×V)},RFs K ι H a b->(a.lookup f=Ψ/\b.lookup f=Ψ)\/∃d v,a.lookup f=Φ d/\b.lookup f=Φ v/\RV K ι H d v
 | [],_,h=>by cases(show _=[] from h);exact .inl ⟨rfl,rfl⟩| (g,d)::r,_,h=>by
  let⟨⟨_,v⟩,w,rfl,rfl,e,i⟩:=h;by_cases c:(f==g)=Γ;exact .inr ⟨d,v,by simp![List.lookup,c],by simp![List.lookup,c],e⟩;have c:(f==g)=Δ:=by simpa using c
  simp![List.lookup,c];exact RFs.look f i
def RFs.put(f)(q:RV K ι H d v):∀{a:List (Str×D)}{b:List (Str×V)},RFs K ι H a b->RFs K ι H (zkO f d a) (putF f v b)
 | [],_,h=>by cases(show _=[] from h);exact⟨(f,v),[],rfl,rfl,q,rfl⟩| (g,x)::r,_,h=>by let⟨⟨_,u⟩,w,rfl,rfl,i,e⟩:=h;unfold zkO putF;by_cases c:g=f;rw[if_pos c,if_pos c];exact⟨(g,v),w,rfl,rfl,q,e⟩;rw[if_neg c,if_neg c];exact⟨(g,u),_,rfl,rfl,i,RFs.put f q e⟩
def zkN[DecidableEq a]{x:a×V}{r:List (a×V)}{k:a}(h:x.1≠k):putK (x::r) k v=x::putK r k v:=by unfold putK;have:decide (x.1=k)=Δ:=decide_eq_false h;simp![any_cons,this,Bool.false_or];split;rw[Ν,if_neg h];rfl
def RIs.keys:∀{kvs:List (Int×D)}{a:List (Key×V)},RIs K ι H kvs a->a.map (·.1)=kvs.map (λp=>(Sum.inl p.1:Key))
 | [],_,r=>by rw[show _=[] from r];rfl| (k,d)::kvs,a,r=>by let⟨⟨_,v⟩,w,rfl,rfl,_,b⟩:=r;simp[RIs.keys b]
def RIs.put(k)(q:RV K ι H d v):∀{kvs:List (Int×D)}{b:List (Key×V)},(kvs.map (·.1)).Nodup->RIs K ι H kvs b->RIs K ι H (putI kvs k d) (putK b (Sum.inl k:Key) v)
 | [],_,_,r=>by rw[show _=[] from r];exact⟨(_,v),[],rfl,rfl,q,rfl⟩| (j,e)::kvs,b,c,r=>by
  let⟨⟨_,u⟩,w,rfl,rfl,n,f⟩:=r;simp![Ν,nodup_cons]at c;by_cases z:j=k;subst z;have h:putI ((j,e)::kvs) j d=(j,d)::kvs:=by simp[putI]
  have i:putK (((Sum.inl j:Key),u)::w) (Sum.inl j:Key) v=((Sum.inl j:Key),v)::w:=by
   unfold putK;have:((((Sum.inl j:Key),u)::w).any λa=>decide (a.1=(Sum.inl j:Key)))=Γ:=by simp
   rw[if_pos this,Ν,if_pos rfl,Τ (g:=id),List.map_id];intro a l;have m:a.1∈w.map (·.1):=mem_map.mpr ⟨a,l,rfl⟩;rw[RIs.keys f]at m;let⟨p,o,s⟩:=mem_map.mp m;have:a.1≠(Sum.inl j:Key):=λy=>c.1 (by
    rw[<-s]at y;rw[<-Sum.inl.inj y];exact mem_map.mpr ⟨p,o,rfl⟩)
   simp[this]
  rw[h,i];exact⟨(_,v),w,rfl,rfl,q,f⟩;have h:putI ((j,e)::kvs) k d=(j,e)::putI kvs k d:=by simp[putI,z]
  have i:putK (((Sum.inl j:Key),u)::w) (Sum.inl k:Key) v=((Sum.inl j:Key),u)::putK w (Sum.inl k:Key) v:=zkN λy=>z (Sum.inl.inj y);rw[h,i];exact⟨(_,u),_,rfl,rfl,n,RIs.put k q c.2 f⟩
def zgv(k)(d):∀kvs:List (Int×D),(putI kvs k d).map (·.1)=if k∈kvs.map (·.1) then kvs.map (·.1) else kvs.map (·.1)++[k]
 | []=>by simp[putI]| (j,e)::r=>by unfold putI;by_cases z:j=k;subst z;simp;have a:=zgv k d r;rw[if_neg z];simp![Ν,mem_cons,a];by_cases h:k∈r.map (·.1);rw[if_pos h,if_pos (.inr h)];rw[if_neg h,if_neg (by rintro(y|y);exact z y.symm;exact h y)];rfl
def zjv(h:(kvs.map (·.1)).Nodup):((putI kvs k d).map (·.1)).Nodup:=by rw[zgv];split;exact h;rename_i n;rw[nodup_append];refine⟨h,by simp,λa e b c=>?_⟩;rw[mem_singleton]at c;subst c;exact λz=>n (z▸e)
def RV.ext(h:Ext ι H ι' H')(r:RV K ι H d v):RV K ι' H' d v:=r.up h.pre h.kp
def RVs.ext(h:Ext ι H ι' H')(r:RVs K ι H ds vs):RVs K ι' H' ds vs:=r.up h.pre h.kp
def RVs.length:∀{ds:List D}{vs:List V},RVs K ι H ds vs->vs.length=ds.length
 | [],_,r=>by rw[show _=[] from r];rfl| d::ds,vs,r=>by let⟨v,w,rfl,_,a⟩:=r;simp[RVs.length a]
def RVs.get:∀{ds:List D}{vs:List V}{i:Nat}{d:D},RVs K ι H ds vs->ds[i]?=Φ d->∃v,vs[i]?=Φ v/\RV K ι H d v
 | [],_,_,_,_,e=>by simp at e| d::ds,vs,0,a,r,e=>by let⟨v,w,rfl,b,_⟩:=r;simp at e;subst e;exact⟨v,rfl,b⟩| d::ds,vs,i+1,a,r,e=>by let⟨v,w,rfl,_,c⟩:=r;let⟨u,f,g⟩:=RVs.get (i:=i) (d:=a) c (by simpa using e);exact⟨u,by simpa using f,g⟩
def RVs.get'{i:Nat}(r:RVs K ι H ds vs)(e:vs[i]?=Φ v):∃d,ds[i]?=Φ d/\RV K ι H d v:=by
 have a:i<ds.length:=by rw[<-r.length];exact(Α.mp e).1
 let⟨u,b,c⟩:=r.get (Ι a);rw[e]at b;cases b;exact⟨_,Ι a,c⟩
def RVs.append:∀{ds es:List D}{vs us:List V},RVs K ι H ds vs->RVs K ι H es us->RVs K ι H (ds++es) (vs++us)
 | [],_,_,_,r,q=>by rw[show _=[] from r];exact q| d::ds,es,vs,us,r,q=>by let⟨v,w,rfl,a,b⟩:=r;exact⟨v,w++us,rfl,a,RVs.append b q⟩
def RVs.take:∀{ds:List D}{vs:List V}(n:Nat),RVs K ι H ds vs->RVs K ι H (ds.take n) (vs.take n)
 |_,_,0,_=>rfl| [],_,n+1,r=>by rw[show _=[] from r];rfl| d::ds,vs,n+1,r=>by let⟨v,w,rfl,a,b⟩:=r;exact⟨v,w.take n,rfl,a,RVs.take n b⟩
def RVs.drop:∀{ds:List D}{vs:List V}(n:Nat),RVs K ι H ds vs->RVs K ι H (ds.drop n) (vs.drop n)
 |_,_,0,r=>r| [],_,n+1,r=>by rw[show _=[] from r];rfl| d::ds,vs,n+1,r=>by let⟨v,w,rfl,b,a⟩:=r;exact RVs.drop n a
def RVs.erase(n)(r:RVs K ι H ds vs):RVs K ι H (ds.eraseIdx n) (vs.eraseIdx n):=by rw[List.eraseIdx_eq_take_drop_succ,List.eraseIdx_eq_take_drop_succ];exact(r.take n).append (r.drop (n+1))
def RVs.cons_iff:RVs K ι H (d::ds) (v::vs)↔RV K ι H d v/\RVs K ι H ds vs:=by constructor;rintro⟨c,r,e,a,b⟩;cases e;exact⟨a,b⟩;rintro⟨a,b⟩;exact⟨v,vs,rfl,a,b⟩
def RVs.ints:∀ns:List Int,RVs K ι H (ns.map D.int) (ns.map V.int)
 | []=>rfl|n::ns=>⟨_,_,rfl,rfl,RVs.ints ns⟩
def RVs.ints_eq:∀{ns:List Int}{vs:List V},RVs K ι H (ns.map D.int) vs->vs=ns.map V.int
 | [],_,h=>h| n::ns,vs,h=>by let⟨v,r,rfl,a,b⟩:=h;rw[RVs.ints_eq b,show v=.int n from a];rfl
def zfP:∀{ds:List D}{ns:List Int},zaD ds=Φ ns->ds=ns.map D.int:=by
 intro ds;unfold zaD;induction ds with
 |nil=>intro ns h;simp at h;subst h;rfl| cons d ds a=>
  intro ns h;rw[Ϛ]at h;cases d with
  |int i=>cases e:List.mapM zed ds with|none=>rw[e]at h;simp[zed]at h|some b=>rw[e]at h;simp[zed]at h;subst h;simp[a e]
  |_=>simp[zed]at h
mutual
theorem RV.flat{K:Frag}{ι:List Addr}{H:Hp}:∀{d:D}{v:V},RV K ι H d v->R.flat ι.length d=Γ
 |.non,_,_=>by simp[R.flat]|.bl _,_,_=>by simp[R.flat]|.int _,_,_=>by simp[R.flat]| .tup ds,_,r=>by let⟨a,xs,e,ha,q⟩:=r;simp![R.flat];exact RVs.flats q| .ref l,_,r=>by let⟨a,e,q⟩:=r;simp![R.flat,decide_eq_true_eq];exact(Α.mp e).1| .fix ds,_,r=>by let⟨a,xs,e,ha,q⟩:=r;simp![R.flat];exact RVs.flats q|.clo _,_,_=>by simp[R.flat]
theorem RVs.flats{K:Frag}{ι:List Addr}{H:Hp}:∀{ds:List D}{vs:List V},RVs K ι H ds vs->R.flats ι.length ds=Γ
 | [],_,_=>by simp[R.flats]| d::ds,vs,r=>by let⟨v,w,e,r1,r2⟩:=r;simp![R.flats,Ε];exact⟨RV.flat r1,RVs.flats r2⟩
end
mutual
theorem RV.restrict{K:Frag}{ι ι':List Addr}{H:Hp}(hp:ι <+: ι'):∀{d:D}{v:V},R.flat ι.length d=Γ->RV K ι' H d v->RV K ι H d v
 |.non,_,_,r=>r|.bl _,_,_,r=>r|.int _,_,_,r=>r| .tup ds,_,f,r=>by let⟨a,xs,e,ha,q⟩:=r;simp![R.flat]at f;exact⟨a,xs,e,ha,RVs.restrict hp f q⟩| .ref l,_,f,r=>by let⟨a,e,q⟩:=r;simp![R.flat,decide_eq_true_eq]at f;refine⟨a,?_,q⟩;let⟨t,rfl⟩:=hp;rw[getElem?_append_left f]at e;exact e| .fix ds,_,f,r=>by let⟨a,xs,e,ha,q⟩:=r;simp![R.flat]at f;exact⟨a,xs,e,ha,RVs.restrict hp f q⟩|.clo _,_,_,r=>r
theorem RVs.restrict{K:Frag}{ι ι':List Addr}{H:Hp}(hp:ι <+: ι'):∀{ds:List D}{vs:List V},R.flats ι.length ds=Γ->RVs K ι' H ds vs->RVs K ι H ds vs
 | [],_,_,r=>r| d::ds,vs,f,r=>by let⟨v,w,e,r1,r2⟩:=r;simp![R.flats,Ε]at f;exact⟨v,w,e,RV.restrict hp f.1 r1,RVs.restrict hp f.2 r2⟩
end
def RPs.flats:∀{kvs:List (e×D)}{a:List f},RPs g h K ι H kvs a->R.flats ι.length (kvs.map (·.2))=Γ
 | [],_,_=>rfl| (k,d)::kvs,a,r=>by let⟨_,w,_,_,b,c⟩:=r;simp![Ν,R.flats,Ε];exact⟨RV.flat b,RPs.flats c⟩
def RPs.restrict(b:ι <+: ι'):∀{kvs:List (m×D)}{a:List n},R.flats ι.length (kvs.map (·.2))=Γ->RPs c h K ι' H kvs a->RPs c h K ι H kvs a
 | [],_,_,r=>r| (k,d)::kvs,a,f,r=>by let⟨g,w,e,i,j,l⟩:=r;simp![Ν,R.flats,Ε]at f;exact⟨g,w,e,i,RV.restrict b f.1 j,RPs.restrict b f.2 l⟩
def RO.up(h:RO K ι H a o)(i:ι <+: ι')(j:Kp H H')(e:H' a=H a):RO K ι' H' a o:=by cases o with|lst n=>let⟨l,b,d⟩:=h;exact⟨l,e.trans b,d.up i j⟩|dic k=>let⟨f,g,b,d⟩:=h;exact⟨f,g,e.trans b,d.up i j⟩|ins c p=>let⟨C,m,g,f,b,d⟩:=h;exact⟨C,m,g,f,e.trans b,d.up i j⟩|d3 k=>let⟨f,g,b,d⟩:=h;exact⟨f,g,e.trans b,d.up i j⟩
def RO.stay(h:RO K ι H a o)(x:Ext ι H ι' H')(e:H' a=H a):RO K ι' H' a o:=h.up x.pre x.kp e
section
variable{K:Frag}{ι ι':List Addr}{H H':Hp}{S S' T:St}{l:Nat}{a p:Addr}
def RH.mem(h:RH K ι H S)(e:S.get l=Φ o):∃a,ι[l]?=Φ a/\RO K ι H a o/\a∈ι:=by let⟨a,b,c⟩:=h.obj l o e;exact⟨a,b,c,mem_of_getElem? b⟩
def znU(h:l<S.len):∃o,S.get l=Φ o:=by unfold St.len at h;unfold St.get;split;rename_i c;exact⟨_,Ι c⟩;exact⟨_,Ι (by lia)⟩
def RH.off(h:RH K ι H S)(x:Ext ι H ι H')(e:∀a∈ι,H' a=H a):RH K ι H' S:=⟨h.len,h.nd,λl o q=>let ⟨a,b,c,d⟩:=h.mem q;⟨a,b,c.stay x (e a d)⟩,x.kp.tab h.tab⟩
def RH.live(h:RH K ι H S)(m:a∈ι):∃o,H a=Φ o/\(∀xs,o≠.tup xs)/\(∀z u,o≠.frz z u)/\∀ps,o≠.tbl ps:=by
 let⟨l,i⟩:=List.mem_iff_getElem?.mp m;have f:l<S.len:=by rw[<-h.len];exact(Α.mp i).1
 let⟨o,e⟩:=znU f;let⟨b,j,d⟩:=h.obj l o e;rw[i]at j;cases j;cases o with|lst n=>let⟨xs,q,_⟩:=d;exact⟨_,q,⟨λ_ z=>(by cases z),λ_ _ z=>(by cases z),λ_ z=>(by cases z)⟩⟩|dic g=>let⟨_,k,q,_⟩:=d;exact⟨_,q,⟨λ_ z=>(by cases z),λ_ _ z=>(by cases z),λ_ z=>(by cases z)⟩⟩|ins c r=>let⟨C,s,k,_,q,_⟩:=d;exact⟨_,q,⟨λ_ z=>(by cases z),λ_ _ z=>(by cases z),λ_ z=>(by cases z)⟩⟩|d3 g=>let⟨_,k,q,_⟩:=d;exact⟨_,q,⟨λ_ z=>(by cases z),λ_ _ z=>(by cases z),λ_ z=>(by cases z)⟩⟩
def RH.fresh(h:RH K ι H S)(b:H p=Option.none):p∉ι:=λc=>by let⟨o,e,_⟩:=h.live c;rw[b]at e;exact nS e
def RH.notup(h:RH K ι H S)(b:H p=Φ (.tup xs)):p∉ι:=λc=>by let⟨o,e,q,_⟩:=h.live c;rw[b]at e;cases e;exact q _ rfl
def Kp.new(c:H p=Option.none)(o):Kp H (upd H p o):=.same (Tups.upd_new c) (λb z u e=>by rw[zad (zai e c)];exact e) λb d e=>by rw[zad (zai e c)];exact e
def Ext.new(b:H p=Option.none)(o):Ext ι H ι (upd H p o):=⟨Ϡ _,Kp.new b o,λa u h e=>⟨.inl (by rw[zad (zai e b)];exact e),h⟩⟩
def RH.new(h:RH K ι H S)(b:H p=Option.none)(o):RH K ι (upd H p o) S:=h.off (Ext.new b o) λa c=>zad λe=>h.fresh b (e▸c)
def zfT(S:St)(o):(S.push o).get S.len=Φ o:=by
 have h:¬S.len<S.frz.length:=by unfold St.len;lia
 unfold St.get St.push;simp![h,if_false];unfold St.len;simp
def zcH(h:l<S.len):(S.push o).get l=S.get l:=by unfold St.len at h;unfold St.get St.push;simp only;split;rfl;rw[getElem?_append_left (by omega)]
def zcm(S:St)(o):(S.push o).len=S.len+1:=by simp[St.push,St.len];lia
def Ext.obj(h:RH K ι H S)(b:H p=Option.none)(u):Ext ι H (ι++[p]) (upd H p u):=
 ⟨ϙ _ _,Kp.new b u,λa o c e=>⟨.inl (by rw[zad (zai e b)];exact e),by
  intro z;rcases mem_append.mp z with z|z;exact c z;simp at z;exact zai e b z⟩⟩
def RH.obj'(h:RH K ι H S)(c:H p=Option.none)(u)(o)(g:RO K (ι++[p]) (upd H p u) p o):RH K (ι++[p]) (upd H p u) (S.push o):=by
 refine⟨by rw[length_append,h.len,zcm];rfl,?_,λl q e=>?_,(Kp.new c u).tab h.tab⟩;rw[nodup_append];refine⟨h.nd,by simp,λa i b f=>?_⟩;simp at f;subst f;exact λz=>h.fresh c (z▸i);by_cases j:l<S.len;rw[zcH j]at e;let⟨a,k,m,n⟩:=h.mem e;exact⟨a,zbP (ϙ _ _) k,m.stay (Ext.obj h c u) (zad λz=>h.fresh c (z▸n))⟩;have d:=get_lt e;rw[zcm]at d;have:l=S.len:=by lia
 subst this;rw[zfT]at e;cases e;exact⟨p,by rw[<-h.len];simp,g⟩
def RH.lay(h:RH K ι H S)(b:H p=Option.none)(r:RVs K ι H ds xs):RH K (ι++[p]) (upd H p (.lst xs)) (S.push (.lst ds)):=h.obj' b _ _ ⟨xs,zaf,r.ext (Ext.obj h b _)⟩
def RH.last(h:RH K ι H S)(p):(ι++[p])[S.len]?=Φ p:=by rw[<-h.len];simp
def Ext.wr(h:RH K ι H S)(e:S.get l=Φ o)(f:ι[l]?=Φ a)(u):Ext ι H ι (upd H a u):=by have d:=mem_of_getElem? f;refine⟨Ϡ _,.same (λb g c=>?_) (λb z v c=>?_) λb i c=>?_,λb o c e=>⟨.inl ((zad λ(z:b=a)=>c (by rw[z];exact d)).trans e),c⟩⟩;rw[zad];exact c;rintro rfl;exact h.notup c d;rw[zad];exact c;rintro rfl;let⟨o,e,_,q,_⟩:=h.live d;rw[c]at e;cases e;exact q _ _ rfl;rw[zad];exact c;rintro rfl;let⟨o,e,_,_,q⟩:=h.live d;rw[c]at e;cases e;exact q _ rfl
def zqi(e:S.put l o=Φ S'):S'.len=S.len/\(l<S.len->S'.get l=Φ o)/\(∀m,m≠l->S'.get m=S.get m)/\S.frz.length<=l:=by unfold St.put at e;split at e;exact nS e;split at e;exact nS e;injection e with e;subst e;rename_i b d;refine⟨by simp[St.len],λc=>?_,λm f=>?_,by lia⟩;unfold St.len at c;unfold St.get;simp![b,if_false];rw[getElem?_set_self (by lia)];unfold St.get;simp only;split;rfl;rw[getElem?_set_ne (by lia)]
def RH.wr(h:RH K ι H S)(e:S.get l=Φ o)(d:ι[l]?=Φ a)(w:S.put l i=Φ S')(j:RO K ι (upd H a u) a i):RH K ι (upd H a u) S':=by let⟨k,n,q,_⟩:=zqi w;refine⟨h.len.trans k.symm,h.nd,λm t c=>?_,(Ext.wr h e d u).kp.tab h.tab⟩;by_cases f:m=l;subst f;rw[n (get_lt e)]at c;cases c;exact⟨a,d,j⟩;rw[q m f]at c;let⟨b,g,r,_⟩:=h.mem c;refine⟨b,g,r.stay (Ext.wr h e d u) (zad ?_)⟩;rintro rfl;let⟨v,s⟩:=Α.mp d;let⟨x,c⟩:=Α.mp g;exact f ((List.getElem_inj h.nd).mp (c.trans s.symm))
end
end R
namespace R
open PySem PySem.Spec PyProof.Rows L2
variable[Mks]
def zqY{K}(r:RV K ι H y v)(h:key3 y=Φ k):∃c,v=.ref c/\Key3 H k c:=by
 cases y with
 |tup x=>
  rcases x with _|⟨a,_|⟨c,_|⟨b,_|⟨_,_⟩⟩⟩⟩
  all_goals first|exact nS h|skip
  all_goals(cases a<;>first|exact nS h|skip)
  all_goals(cases c<;>first|exact nS h|skip)
  all_goals(cases b<;>first|exact nS h|skip)
  rename_i a g b;replace h:((zaD g).map λp=>(a,p,b))=Φ k:=h;cases e:zaD g with
  |none=>rw[e]at h;exact nS h
  |some p=>rw[e]at h;cases h;let⟨c,u,rfl,i,j,w,rfl,l,x,z,rfl,m,n,o,rfl,q,s⟩:=r;cases(show o=[] from s);obtain rfl:j=.int a:=l;let⟨t,A,rfl,d,f⟩:=m;obtain rfl:n=.int b:=q;rw[zfP e]at f;rw[f.ints_eq]at d;exact⟨c,rfl,t,i,d⟩
 |_=>exact nS h
end R
namespace R
open PySem PySem.Spec PyProof.Rows L2
section
variable{prog:ϊ}{w:ό}{K:Type}[DecidableEq K]{knd:HeapKind prog w K}{A:ϐ}{E:Ξ->Β->Prop}{s:Β}{xs:List (K×Addr×Ξ)}{d j:Addr}{i ep:Nat}
abbrev HAt(knd:HeapKind prog w K)(h:Heap)(d:Addr)(xs:List (K×Addr×Ξ))(ep:Nat):Prop:=∃o a,h.get? d=Φ o/\o.ExactDict/\o.data=.dict a ep/\a.toList=xs.map (entryOfKey knd)
def HAt.at(x:HAt knd h d xs ep)(e:∀o,h.get? d=Φ o->h'.get? d=Φ o):HAt knd h' d xs ep:=let ⟨o,a,b,r⟩:=x;⟨o,a,e _ b,r⟩
end
section
variable{X:Cx}
def zuS:zbn X (.type "int") (λvs H Q=>∃b,vs=[.bl b]/\Q (.int (if b then 1 else 0)) H):=by intro a s d H e f Q I r h;let⟨b,rfl,q⟩:=h;let⟨u,rfl,c⟩:=r.one;cases(show u=Ξ.bool b from c);exact call_int_bool ⟨.int _,H,I.tok _,⟨_,rfl⟩,q⟩
end
end R
namespace R
open PySem PySem.Spec PyProof.Rows L2
variable[Mks]
abbrev Lf(K:Frag)(ι:List Addr)(H:Hp)(Q:D->R.St->Prop):VK:=λv H'=>∃d ι' a,Ext ι H ι' H'/\RV K ι' H' d v/\RH K ι' H' a/\Q d a
section
variable{K:Frag}{ι ι':List Addr}{H H':Hp}{S S':R.St}{Q:D->R.St->Prop}{d:D}{v:V}{p:Addr}
def Lf.of(h:RH K ι H S)(r:RV K ι H d v)(q:Q d S):Lf K ι H Q v H:=⟨d,ι,S,Ext.refl ι H,r,h,q⟩
def Lf.up(x:Ext ι H ι' H')(h:Lf K ι' H' Q v b):Lf K ι H Q v b:=by let⟨d,a,c,e,r⟩:=h;exact⟨d,a,c,x.trans e,r⟩
def Lf.tup(h:RH K ι H S)(a:H p=Option.none){ds:List D}{xs:List V}(r:RVs K ι H ds xs)(q:Q (.tup ds) S):Lf K ι H Q (.ref p) (upd H p (.tup xs)):=⟨.tup ds,ι,S,Ext.new a _,⟨p,xs,rfl,zaf,r.ext (Ext.new a _)⟩,h.new a _,q⟩
def Lf.lst(h:RH K ι H S)(a:H p=Option.none){ds:List D}{xs:List V}(r:RVs K ι H ds xs)(q:Q (.ref S.len) (S.push (.lst ds))):Lf K ι H Q (.ref p) (upd H p (.lst xs)):=⟨.ref S.len,ι++[p],S.push (.lst ds),Ext.obj h a _,⟨p,h.last p,rfl⟩,h.lay a r,q⟩
def Lf.wr(h:RH K ι H S)(e:S.get l=Φ o)(b:ι[l]?=Φ a)(w:S.put l (.lst ds)=Φ S')(r:RVs K ι H ds xs)(c:RV K ι H d v)(q:Q d S'):Lf K ι H Q v (upd H a (.lst xs)):=⟨d,ι,S',Ext.wr h e b _,c.ext (Ext.wr h e b _),h.wr e b w ⟨xs,zaf,r.ext (Ext.wr h e b _)⟩,q⟩
end
def zd9(h:W (lay S ds) Q):ds.length<=sizeLine/\Q (.ref S.len) (S.push (.lst ds)):=by unfold lay at h;split at h;rename_i c;exact⟨by rw[Υ];exact c,h⟩;exact h.elim
def zmx(h:W (wr S l ds d) Q):ds.length<=sizeLine/\∃a,S.put l (.lst ds)=Φ a/\Q d a:=by
 unfold wr at h;split at h;rename_i c;refine⟨by rw[Υ];exact c,?_⟩;cases e:S.put l (.lst ds) with|none=>rw[e]at h;exact h.elim|some a=>rw[e]at h;exact⟨a,rfl,h⟩
 exact h.elim
abbrev rD2(K:Frag)(f:R.St->D->D->Out D):R2:=λx y H b=>∃ι S d e a,RV K ι H d x/\RV K ι H e y/\RH K ι H S/\W (f S d e) a/\∀v H',Lf K ι H a v H'->b v H'
section
variable{X:Cx}
def zn8{vs g:List Ξ}(m:IsTup s.heap t vs.toArray)(o:IsTup s.heap b g.toArray)(p:vs=[])(q:Q (.ref b) s):wpAny (model prog w) A (binaryOp .Add (.ref t) (.ref b)) Q E s:=by
 let⟨⟨r,u,h,v⟩,i,j,n,k⟩:=id m;let⟨⟨l,e,data2,f⟩,a,c,x,d⟩:=id o;simp only at j k c d;subst j k c d;exact concat_meets ⟨_,i,rfl⟩ ⟨_,a,rfl⟩ noFill_tuple_add seq_tuple_add PySem.F.slot_tuple_add PySem.F.entry_tuple_add (PySem.F.args_tuple_add_2 _ _)
  (tuple_addW0 t b vs.toArray g.toArray n x u e v f (by simp[p])) ⟨i,a,q⟩
def znx:OpR X (binaryOp .Add) (λx y H Q=>∃a b ys,x=.ref a/\y=.ref b/\SqT X.K H a []/\SqT X.K H b ys/\Q (.ref b) H):=by intro c s n H x y v u Q I e f h;let⟨a,b,ys,rfl,rfl,g,i,q⟩:=h;cases e;cases f;let⟨j,k,l,_⟩:=I.tuple g;let⟨d,o,m,_⟩:=I.tuple i;exact zn8 l m (k.nil_iff.mpr rfl) ⟨.ref b,H,I,rfl,q⟩
def zt0(op):OpR X (binaryOp op) (rD2 X.K λS d e=>binD S op d e):=by
 intro g s l H x y v u h I m n Y;let⟨ι,S,d,e,Qd,E,G,o,f,q⟩:=Y;dsimp only at f;unfold binD at f;split at f;rename_i i j;obtain rfl:x=.int i:=E;obtain rfl:y=.int j:=G;have fin:∀k:Int,Qd (.int k) S->h (.int k) H:=λk hk=>q _ _ (Lf.of (d:=.int k) o rfl hk);unfold binI at f;split at f;exact zoN g s l H _ _ v u h I m n ⟨i,j,rfl,rfl,fin _ f⟩;exact zs7 g s l H _ _ v u h I m n ⟨i,j,rfl,rfl,fin _ f⟩;split at f;rename_i c;refine zta g s l H _ _ v u h I m n ⟨i,j,rfl,rfl,?_,fin _ f⟩;unfold zfD at c;rw[Ϝ,decide_eq_true_eq,decide_eq_true_eq]at c;exact c;exact f.elim;split at f;rename_i c;exact zqD g s l H _ _ v u h I m n ⟨i,j,rfl,rfl,c,fin _ f⟩;exact f.elim;split at f;rename_i c;exact ztb g s l H _ _ v u h I m n ⟨i,j,rfl,rfl,c,fin _ f⟩;exact f.elim;split at f;rename_i c;exact zs8 g s l H _ _ v u h I m n ⟨i,j,rfl,rfl,⟨c.1,c.2.1,by omega⟩,fin _ f⟩;exact f.elim;exact f.elim;rename_i J L;split at f;split at f;rename_i c;let⟨a,w,rfl,A,r⟩:=E;let⟨b,B,rfl,C,t⟩:=G;by_cases O:w=[];subst O;have M:J=[]:=by have:=r.length;simpa using this.symm
 subst M;refine znx g s l H _ _ v u h I m n ⟨a,b,B,rfl,rfl,SqT.of A,SqT.of C,?_⟩;exact q _ _ (Lf.of (d:=.tup L) o ⟨b,B,rfl,C,t⟩ (by simpa using f));refine zqE g s l H _ _ v u h I m n ⟨a,b,w,B,rfl,rfl,SqT.of A,SqT.of C,O,?_,λQ=>?_,λQ p N=>?_⟩;rw[r.length,t.length,Υ];exact c;subst Q;have M:L=[]:=by have:=t.length;simpa using this.symm
 subst M;exact q _ _ (Lf.of (d:=.tup J) o ⟨a,w,rfl,A,r⟩ (by simpa using f));exact q _ _ (Lf.tup o N (r.append t) f);exact f.elim;exact f.elim;rename_i a b;split at f;rename_i J L e1 e2;let⟨a1,h1,rfl⟩:=E;let⟨b1,h2,rfl⟩:=G;let⟨a2,T,w,A,r⟩:=o.obj _ _ e1;let⟨b2,U,B,C,t⟩:=o.obj _ _ e2;rw[h1]at T;cases T;rw[h2]at U;cases U;let⟨z,hq⟩:=zd9 f;refine ztd g s l H _ _ v u h I m n ⟨a1,b1,w,B,rfl,rfl,A,C,?_,λp N=>?_⟩;rw[r.length,t.length];rw[length_append]at z;exact z;exact q _ _ (Lf.lst o N (r.append t) hq);exact f.elim;exact f.elim
def zaC{a b:Type}{f:a->Option b}{x:a}{xs:List a}{ys:List b}(h:(x::xs).mapM f=Φ ys):∃y r,f x=Φ y/\xs.mapM f=Φ r/\ys=y::r:=by
 rw[Ϛ]at h;cases e:f x with
 |none=>rw[e]at h;exact nS h
 |some y=>
  rw[e]at h;cases c:xs.mapM f with
  |none=>rw[c]at h;exact nS h
  |some r=>rw[c]at h;injection h with h;exact⟨y,r,rfl,rfl,h.symm⟩
def zjx(z:RH X.K ι H S):∀(n:Nat)(d:D)(g:PyData)(v:V),pd S n d=Φ g->RV X.K ι H d v->Rep H g v/\g.canLay0=Γ/\g.depth<=n:=by
 intro n;induction n with
 |zero=>
  intro d p v h r;cases d<;>simp![pd]at h
  cases h;exact⟨r,rfl,le_refl _⟩;cases h;exact⟨r,rfl,le_refl _⟩;cases h;exact⟨r,rfl,le_refl _⟩
  all_goals exact nS h
 |succ n A=>
  have j:∀(c:List D)(f:List PyData)(o:List V),c.mapM (pd S n)=Φ f->RVs X.K ι H c o->RepAll H f o/\PyData.canLayAll0 f=Γ/\PyData.depthAll f<=n:=by
   intro c;induction c with
   |nil=>
    intro f o h r;have h:f=[]:=by simpa using h.symm
    subst h;exact⟨r,rfl,zero_le _⟩
   |cons d c s=>intro f o h r;let⟨y,k,t,q,rfl⟩:=zaC h;let⟨v,w,rfl,B,C⟩:=r;let⟨E,x,I⟩:=A d y v t B;let⟨b1,b2,b3⟩:=s k w q C;refine⟨⟨v,w,rfl,E,b1⟩,by simp[PyData.canLayAll0,x,b2],?_⟩;simp![PyData.depthAll];lia
  intro d p v h r;cases d with
  |non=>simp![pd]at h;cases h;exact⟨r,rfl,zero_le _⟩|bl b=>simp![pd]at h;cases h;exact⟨r,rfl,zero_le _⟩|int i=>simp![pd]at h;cases h;exact⟨r,rfl,zero_le _⟩| tup c=>
   simp![pd]at h;cases e:c.mapM (pd S n) with
   |none=>rw[e]at h;exact nS h
   |some f=>
    rw[e]at h;have h:PyData.tuple f=p:=by simpa using h
    subst h;let⟨a,m,rfl,u,k⟩:=r;let⟨b1,b2,b3⟩:=j c f m e k;refine⟨⟨a,m,rfl,u,b1⟩,by simp[PyData.canLay0,b2],?_⟩;simp![PyData.depth];lia
  |ref l=>
   simp![pd]at h;split at h;rename_i c G;cases e:c.mapM (pd S n) with
   |none=>rw[e]at h;exact nS h
   |some f=>
    rw[e]at h;have h:PyData.list f=p:=by simpa using h
    subst h;let⟨a,t,rfl⟩:=r;let⟨x,q,m,u,k⟩:=z.obj _ _ G;rw[t]at q;cases q;let⟨b1,b2,b3⟩:=j c f m e k;refine⟨⟨a,m,rfl,u,b1⟩,by simp[PyData.canLay0,b2],?_⟩;simp![PyData.depth];lia
   exact nS h
  |fix c=>simp![pd]at h;exact nS h
  |clo c=>simp![pd]at h;exact nS h
abbrev rC2(K:Frag)(op:CmpOp):R2:=λx y H a=>∃ι S d e k,RV K ι H d x/\RV K ι H e y/\RH K ι H S/\cmpD S op d e=Φ k/\a (.bl k) H
def ziT(h:eqD S d e=Φ k):∃a b,pd S 60 d=Φ a/\pd S 60 e=Φ b/\k=PyData.eqv a b:=by
 unfold eqD at h;cases c:pd S 60 d with
 |none=>rw[c]at h;exact nS h
 |some a=>
  rw[c]at h;cases f:pd S 60 e with
  |none=>rw[f]at h;exact nS h
  |some b=>rw[f]at h;injection h with h;exact⟨a,b,rfl,rfl,h.symm⟩
open Classical in
abbrev eqRd(h:Heap)(p:PyData)(u:Ξ):Bool:=if c:∃q as,Reads h u q as/\q.canLay0=Γ then PyData.eqv c.choose p else Δ
def zrf(r:Reads h u q as)(c:q.canLay0=Γ):eqRd h p u=PyData.eqv q p:=by have a:∃q as,Reads h u q as/\q.canLay0=Γ:=⟨q,as,r,c⟩;unfold eqRd;rw[dif_pos a];let⟨b,d,e⟩:=a.choose_spec;rw[SeqAt.Reads.unique _ _ _ _ _ c r d]
def znO(I:Inv X m σ H s)(hA:A.units+62<cLine)(n:RH X.K ι H S)(o:pd S 60 x=Φ c)(C:RV X.K ι H x f)(E:RelV f g):
  ∀{ds:List D}{vs:List V}{us:List Ξ}{bs:List Bool},RVs X.K ι H ds vs->Vals vs us->ds.mapM (λz=>eqD S z x)=Φ bs->us.any (eqRd s.heap c)=bs.any id/\∀u∈us,SeqAt.EqAt A s u g (eqRd s.heap c u):=by
 let⟨G,J,x3⟩:=zjx n 60 x c f o C;let⟨i,j⟩:=Rep.reads I c f g G E;intro ds;induction ds with
 |nil=>
  intro vs us bs r k h;cases(show vs=[] from r);cases k;have h:bs=[]:=by simpa using h.symm
  subst h;exact⟨rfl,λu L=>by cases L⟩
 |cons d ds M=>intro vs us bs r k h;let⟨v,w,rfl,N,O⟩:=r;let⟨b,rr,e,Q,rfl⟩:=zaC h;cases k with| cons T U=>rename_i u Y;let⟨a,b',e1,q,rfl⟩:=ziT e;rw[o]at q;cases q;let⟨p1,t,p3⟩:=zjx n 60 d a v e1 N;let⟨as,y⟩:=Rep.reads I a v u p1 T;have B:=zrf (p:=c) y t;let⟨i1,i2⟩:=M O U Q;refine⟨by simp[B,i1],λz l=>?_⟩;rcases mem_cons.mp l with rfl|l;rw[B];exact SeqAt.eqAt_reads a c A s z g as i y j t J (by lia);exact i2 z l
def zou(g:RH X.K ι H S)(h:zbh S d=Φ ds)(r:RV X.K ι H d v):∃a xs,v=.ref a/\(SqL X.K H a xs\/SqT X.K H a xs)/\RVs X.K ι H ds xs:=by
 cases d with
 |tup i=>cases h;let⟨a,xs,rfl,b,c⟩:=r;exact⟨a,xs,rfl,.inr (SqT.of b),c⟩| fix i=>cases h;let⟨a,xs,rfl,b,c⟩:=r;exact⟨a,xs,rfl,.inl b.sq,c⟩| ref l=>simp![zbh]at h;split at h;rename_i j e;cases h;let⟨a,k,rfl⟩:=r;let⟨m,f,xs,b,c⟩:=g.obj _ _ e;rw[k]at f;cases f;exact⟨a,xs,rfl,.inl (SqL.of b),c⟩;exact nS h
 |_=>exact nS h
def ztH(h:inD S x ys=Φ k):∃bs,ys.mapM (λz=>eqD S z x)=Φ bs/\k=bs.any id:=by
 unfold inD at h;cases e:ys.mapM (λz=>eqD S z x) with
 |none=>rw[e]at h;exact nS h
 |some bs=>rw[e]at h;injection h with h;exact⟨bs,rfl,h.symm⟩
def nonV{K}(hd:RV K ι H d x):decide (x=V.non)=zq1 d:=by cases d with|non=>rw[show x=.non from hd];rfl|bl b=>rw[show x=.bl b from hd];rfl|int b=>rw[show x=.int b from hd];rfl|tup b=>let⟨_,_,rfl,_⟩:=hd;rfl|ref b=>let⟨_,_,rfl⟩:=hd;rfl|fix b=>let⟨_,_,rfl,_⟩:=hd;rfl|clo b=>let⟨_,rfl,_⟩:=hd;rfl
def ze1(hu:X.A.units+128<cLine)(op):OpR X (compareOp op) (rC2 X.K op):=by
 intro f s A H x y v u B I o n q';let⟨ι,S,d,e,k,O,Q,T,c,q⟩:=q';unfold cmpD at c;split at c;rename_i i j;obtain rfl:x=.int i:=O;obtain rfl:y=.int j:=Q;unfold cmpI at c;split at c;cases c;exact zuJ f s A H _ _ v u B I o n ⟨rfl,by simpa using q⟩;cases c;exact zuE f s A H _ _ v u B I o n ⟨rfl,by simpa using q⟩;cases c;exact zuF f s A H _ _ v u B I o n ⟨i,j,rfl,rfl,q⟩;cases c;exact zuG f s A H _ _ v u B I o n ⟨i,j,rfl,rfl,q⟩;cases c;exact zuH f s A H _ _ v u B I o n ⟨i,j,rfl,rfl,q⟩;cases c;exact zuI f s A H _ _ v u B I o n ⟨i,j,rfl,rfl,q⟩;exact nS c;unfold cmpO at c;have C:∀(k:Bool),((zbh S e).bind λU=>inD S d U)=Φ k->∃a E,y=.ref a/\(SqL X.K H a E\/SqT X.K H a E)/\∃(t:PyData),∀Y,Vals E Y->Y.any (eqRd s.heap t)=k/\∀z∈Y,SeqAt.EqAt X.A.in1 s z v (eqRd s.heap t z):=by
  intro k h;cases es:zbh S e with
  |none=>rw[es]at h;exact nS h
  |some U=>
   rw[es]at h;let⟨bs,hb,rfl⟩:=ztH (show inD S d U=Φ k from h);let⟨a,E,rfl,l,rr⟩:=zou T es Q;refine⟨a,E,rfl,l,?_⟩;cases G:pd S 60 d with
   |some t=>exact⟨t,λY J=>znO I (show X.A.units+1+62<cLine by lia) T G O o rr J hb⟩| none=>
    cases U with
    |nil=>
     refine⟨.none,λY J=>?_⟩;cases(show E=[] from rr);cases J;have hb:bs=[]:=by simpa using hb.symm
     subst hb;exact⟨rfl,λz hz=>by cases hz⟩
    |cons z zs=>let⟨b,r,m,_⟩:=zaC hb;let⟨_,_,_,h3,_⟩:=ziT m;rw[G]at h3;exact nS h3
 split at c
 . skip
   let⟨a,b,m,p,rfl⟩:=ziT c;let⟨p1,p2,p3⟩:=zjx T 60 d a x m O;let⟨q1,q2,q3⟩:=zjx T 60 e b y p Q;exact ztc (by lia) f s A H x y v u B I o n ⟨a,b,p1,q1,p2,q2,by lia,q⟩
 cases L:eqD S d e with
 |none=>rw[L]at c;exact nS c
 |some k'=>
  rw[L]at c;let⟨a,b,m,p,rfl⟩:=ziT L;let⟨p1,p2,p3⟩:=zjx T 60 d a x m O;let⟨q1,q2,q3⟩:=zjx T 60 e b y p Q;have c:k = !PyData.eqv a b:=by simpa using c.symm
  subst c;exact zs9 (by lia) f s A H x y v u B I o n ⟨a,b,p1,q1,p2,q2,by lia,q⟩
 split at c;obtain rfl:y=.non:=Q;cases c;obtain rfl:u=Ξ.none:=n;refine is_none_gen ⟨.bl _,H,I,rfl,?_⟩;rw[o.none_iff,nonV O];exact q;exact nS c;split at c;obtain rfl:y=.non:=Q;cases c;obtain rfl:u=Ξ.none:=n;refine isnot_none_gen ⟨.bl _,H,I,rfl,?_⟩;rw[o.none_iff,nonV O];exact q;exact nS c
 . skip
   let⟨a,E,rfl,l,t,G⟩:=C _ c;cases(show u=Ξ.ref a from n);rcases l with l|l;let⟨g,r,M,hz⟩:=I.list l;let⟨m,p⟩:=G g r;exact SeqAt.in_listAt (eqRd s.heap t) M.isList (λw N=>p w (by simpa using N)) (zav I q (by simpa using m.symm));let⟨g,r,M,hz⟩:=I.tuple l;let⟨m,p⟩:=G g r;exact SeqAt.in_tupleAt (eqRd s.heap t) M (λw N=>p w (by simpa using N)) (zav I q (by simpa using m.symm))
 cases L:(zbh S e).bind λU=>inD S d U with
 |none=>rw[L]at c;exact nS c
 |some k'=>
  rw[L]at c;have c:k = !k':=by simpa using c.symm
  subst c;let⟨a,E,rfl,l,t,G⟩:=C k' L;cases(show u=Ξ.ref a from n);rcases l with l|l;let⟨g,r,M,hz⟩:=I.list l;let⟨m,p⟩:=G g r;exact SeqAt.notIn_listAt (eqRd s.heap t) M.isList (λw N=>p w (by simpa using N)) (zav I q (by simpa using congrArg (!·) m.symm));let⟨g,r,M,hz⟩:=I.tuple l;let⟨m,p⟩:=G g r;exact SeqAt.notIn_tupleAt (eqRd s.heap t) M (λw N=>p w (by simpa using N)) (zav I q (by simpa using congrArg (!·) m.symm))
 exact nS c
end
abbrev zao:Expr->Bool|.Starred _ _=>Δ|_=>Γ
abbrev zbA:Expr->Bool|.ListComp ..=>Δ|.SetComp ..=>Δ|.DictComp ..=>Δ|_=>Γ
abbrev zfC:Expr->Bool|.Slice ..=>Δ|_=>Γ
abbrev za6:Expr->Bool|.Set ..=>Δ|_=>Γ
abbrev zbd:Expr->Bool|.Call (.Name _ _) [] [] _=>Δ|_=>Γ
abbrev zix:Expr->Bool|.UnaryOp .Not _ _=>Δ|.BoolOp ..=>Δ|.IfExp ..=>Δ|.Compare ..=>Δ|_=>Γ
def zan(h:zao e=Γ)(es)(env):starEach (e::es) env=(Δ,eval e env)::starEach es env:=by cases e<;>first|rfl|exact nB h
def zfj(h:zbA e=Γ)(t)(l)(env):swapsWith e t l env=pure Δ:=by cases e<;>first|rfl|exact nB h
def zuQ(h:zfC e=Γ):zmw e:=by intro o i;cases e<;>first|rfl|exact nB h
def zfI(h:za6 e=Γ)(op):behindInMarks op e=Δ:=by cases e<;>first|rfl|exact nB h
def zcL(h:zbd e=Γ)(x)(env)(w):attributeBase e x env w=w:=by unfold attributeBase;cases e<;>(try rfl);rename_i f a k _;cases f<;>(try rfl);cases a<;>(try rfl);cases k<;>(try rfl);exact nB h
def zrU(h:zix e=Γ)(env)(w):isTrue e env w=(do let v <-w;standAt e.pos;holding [v] (truthy v)):=by
 cases e with
 |UnaryOp a x p=>cases a<;>first|rfl|exact nB h
 |_=>first|rfl|exact nB h
def zhW(h:za6 e=Γ)(env)(x):foldedSetIterable e env x=pure x:=by cases e<;>first|rfl|exact nB h
def zaQ:∀{es:List Expr},es.all zao=Γ->(backTo pos (starEach es env)).any (·.1)=Δ
 | [],_=>rfl| e::es,h=>by rw[all_cons,Ε]at h;rw[zan h.1];exact zaQ (es:=es) h.2
abbrev BM(b:Str->Option Ξ)(base:Heap):Prop:=∃(a:Addr) (o:Obj),b "__builtins__"=Φ (.ref a)/\a≠builtinsNs/\a≠mainGlobals/\base.get? a=Φ o/\o.cls=.type "module"/\o.dict=Φ builtinsNs/\o.data=.plain
structure Maker(X:Cx)(c P:Addr):Prop where
 bm:BM X.mg X.base
 code:X.env.code=.ref c
 hd:codeHdIn X.K c P=Γ
 mem:(P,X.env.qual ++ "<lambda>")∈Mks.ts
 one:∀p∈Mks.ts,p.1=P->p.2=X.env.qual ++ "<lambda>"
structure Tab where
 blt:List Str
 cons:List (Str×D)
 fns:List (Str×List Str×Nat)
 cls:List Str:=[]
 flds:List Str:=[]
 mts:List (Nat×Str×Nat):=[]
 inits:List (Nat×Nat×Nat):=[]
 cms:List (Str×Str×Nat):=[]
 isas:List (Str×List Nat):=[]
 lam:List Str:=["lambda"]
 lamP:Nat:=0
abbrev zlD(a:Scope)(x:Str):Bool:=match a.names.lookup x with|some .local=>Γ|some .cell=>Γ|some .free=>Γ|_=>Δ
abbrev zgM(a:Scope)(x:Str):Bool:=match a.names.lookup x with|some .local=>Γ|some .cell=>Γ|_=>Δ
abbrev isGl(a:Scope)(x:Str):Bool:=match a.names.lookup x with|some .globalImplicit=>Γ|_=>Δ
abbrev eqC:D->D->Bool
 |.non,.non=>Γ|.bl a,.bl b=>a==b|.int a,.int b=>a==b|_,_=>Δ
def ztP:∀{d e:D},eqC d e=Γ->d=e:=by intro d e h;cases d<;>cases e<;>first|rfl|exact nB h|(obtain rfl:=eq_of_beq (α:=Int) h;rfl)|(obtain rfl:=eq_of_beq (α:=Bool) h;rfl)
abbrev sV:D->V
 |.non=>.non|.bl b=>.bl b|.int i=>.int i|_=>.non
abbrev zpV:D->Bool
 |.non=>Γ|.bl _=>Γ|.int _=>Γ|_=>Δ
def zuv{K}(h:zpV d=Γ):RV K ι H d (sV d):=by cases d<;>first|rfl|exact nB h
abbrev conB:D->Const->Bool
 |.non,.none=>Γ|.bl a,.bool b=>a==b|.int a,.int b=>a==b|_,_=>Δ
abbrev bltB(T:Tab)(a:Scope)(x:Str):Bool:=isGl a x&&T.blt.contains x
abbrev spF(K:Frag)(cf:CF)(f:Nat):Sp:=λb H c _=>∃ι S a,RVs K ι H a b/\RH K ι H S/\W (cf f a S) (λd T=>∀v H' ι',Ext ι H ι' H'->RV K ι' H' d v->RH K ι' H' T->c v H')
structure HasM(P:ϊ)(w:ό)(K:Frag)(mg:Str->Option Ξ)(base:Heap)(k c:Nat)(m:Str)(sp:Sp):Prop where
 ex:∃(C fa:Addr) (fd:FuncData) (ps:List Str),Mks.cl[c]?=Φ C/\Cls K C/\Meth K C m fa/\FnOk P w K mg base CX0 k fa fd ps sp/\Binds K fd ps []
structure HasI(P:ϊ)(w:ό)(K:Frag)(mg:Str->Option Ξ)(base:Heap)(k c j:Nat)(sp:Sp):Prop where
 ex:∃(C fa:Addr) (fd:FuncData) (ps:List Str),Mks.cl[c]?=Φ C/\Mk K C fa/\FnOk P w K mg base CX0 k fa fd ps sp/\Binds K fd ps (List.replicate j Ξ.none)
structure HasC(P:ϊ)(w:ό)(K:Frag)(mg:Str->Option Ξ)(base:Heap)(k:Nat)(x m:Str)(sp:Sp):Prop where
 ex:∃(C fa:Addr) (fd:FuncData) (ps:List Str) (mc:Ξ),mg x=Φ (.ref C)/\specialIn K (.ref C) "__getattribute__"=Φ (Φ (.builtin "type.__getattribute__"))/\readsIn K C mc=Γ/\findCls K (.ref C) mc m=Φ (.val (.ref fa))/\
  keepIn K (.ref fa)=Γ/\FnOk P w K mg base CX0 k fa fd ps sp/\Binds K fd ps []
structure IsaOk(K:Frag)(C:Addr):Prop where
 ha:findIn K (.ref C) "__class__"=Φ (Φ (.builtin "object.__class__"))
 hn:specialIn K (.builtin "object.__class__") "__get__"=Φ (Φ (.builtin "getset_descriptor.__get__"))
 ht:takesIn K (.builtin "object.__class__")=Φ Γ
 hm:mroIn K C (.type "object")=Φ Γ
structure TabOk(T:Tab)(cf:CF)(k:Nat)(P:ϊ)(w:ό)(K:Frag)(mg:Str->Option Ξ)(base:Heap):Prop where
 blt:∀x,T.blt.contains x=Γ->mg x=Ψ
 con:∀x d,T.cons.lookup x=Φ d->zpV d=Γ/\∃u,mg x=Φ u/\RelV (sV d) u
 fns:∀f x ps nd,T.fns[f]?=Φ (x,ps,nd)->∀j,j<=nd->Has P w K mg base k x ps (List.replicate j .non) (spF K cf f)
 frm:CFok cf
 cls:∀(c:Nat)(x:Str),T.cls[c]?=Φ x->∃C,Mks.cl[c]?=Φ C/\Cls K C/\mg x=Φ (.ref C)/\∀f,T.flds.contains f=Γ->NoAttr K C f
 mth:∀(c:Nat)(m:Str)(fi:Nat),T.mts.contains (c,m,fi)=Γ->HasM P w K mg base k c m (spF K cf fi)
 ini:∀(c fi j:Nat),T.inits.contains (c,fi,j)=Γ->HasI P w K mg base k c j (spF K cf fi)
 cmd:∀(x m:Str)(fi:Nat),T.cms.contains (x,m,fi)=Γ->HasC P w K mg base k x m (spF K cf fi)
 cln:(T.flds≠[]\/T.inits≠[]\/T.isas≠[])->Mks.cl.length<=T.cls.length
 isa:∀(x:Str)(cs:List Nat),T.isas.contains (x,cs)=Γ->∃D,mg x=Φ (.ref D)/\∀c C,Mks.cl[c]?=Φ C->IsaOk K C/\kitOne K (.ref C) (.ref D)=Φ (cs.contains c)
structure Gd(T:Tab)(cf:CF)(k:Nat)(N:List Str)(sc:Scope)(X:Cx):Prop where
 nm:X.N=N
 nd:N.Nodup
 loc:∀x,sc.names.lookup x=Φ .local->X.env.scope.names.lookup x=Φ .local
 cell:∀x,sc.names.lookup x=Φ .cell->X.env.scope.names.lookup x=Φ .cell
 free:∀x,sc.names.lookup x=Φ .free->X.env.scope.names.lookup x=Φ .free\/X.env.scope.names.lookup x=Φ .cell
 glob:∀x,sc.names.lookup x=Φ .globalImplicit->X.env.scope.names.lookup x=Φ .globalImplicit
 fn:(∀x,X.fn x=Γ)\/∀x,sc.names.lookup x≠Φ .cell
 calm:X.calm=Γ
 xe:X.xe=λ_ _=>False
 room':Room (k+1) X.A
 tab:TabOk T cf k X.prog X.w X.K X.mg X.base
 lam:N=T.lam->3<=k/\∃c,Maker X c T.lamP
section
variable{T:Tab}{cf:CF}{k:Nat}{N:List Str}{sc:Scope}{X:Cx}
def Gd.room(G:Gd T cf k N sc X):Room k X.A:=G.room'.mono (le_succ k)
def Gd.hu(G:Gd T cf k N sc X):X.A.units+128<cLine:=by have:=G.room.un;lia
def Gd.vis(G:Gd T cf k N sc X)(h:zlD sc x=Γ):Vis X.env.scope x:=by unfold zlD at h;split at h;rename_i e;exact .inl (G.loc x e);rename_i e;exact .inr (.inl (G.cell x e));rename_i e;rcases G.free x e with q|q;exact .inr (.inr q);exact .inr (.inl q);exact nB h
def Gd.lc(G:Gd T cf k N sc X)(h:zgM sc x=Γ):Loc X.env.scope x/\(X.fn x=Γ\/X.env.scope.names.lookup x=Φ .local):=by unfold zgM at h;split at h;rename_i e;exact⟨.inl (G.loc x e),.inr (G.loc x e)⟩;rename_i e;refine⟨.inr (G.cell x e),?_⟩;rcases G.fn with q|q;exact .inl (q x);exact absurd e (q x);exact nB h
def Gd.gl(G:Gd T cf k N sc X)(h:isGl sc x=Γ):Gl X x:=by unfold isGl at h;split at h;rename_i e;exact G.glob x e;exact nB h
end
abbrev RS(K:Frag)(ι:List Addr)(H:Hp)(δ:Ev)(a:L2.St):Prop:=δ.length=a.length/\∀(i:Nat)(d:D),δ[i]?=Φ (Φ d)->∃v,a[i]?=Φ (Φ v)/\RV K ι H d v
def RS.ext{K}(h:RS K ι H δ a)(x:Ext ι H ι' H'):RS K ι' H' δ a:=⟨h.1,λi d e=>let ⟨v,b,r⟩:=h.2 i d e;⟨v,b,r.ext x⟩⟩
def RS.set{K}(h:RS K ι H δ f)(r:RV K ι H d v)(i):RS K ι H (δ.set i (Φ d)) (f.set i (Φ v)):=by
 refine⟨by simp[h.1],λj e b=>?_⟩;by_cases a:i=j;subst a;have c:i<δ.length:=by have:=(Α.mp b).1;simpa using this
 rw[getElem?_set_self c]at b;cases b;exact⟨v,getElem?_set_self (by rw[<-h.1];exact c),r⟩;rw[getElem?_set_ne a]at b;let⟨g,k,l⟩:=h.2 j e b;exact⟨g,by rw[getElem?_set_ne a];exact k,l⟩
abbrev tE(K:Frag)(cf:CF)(b:CE):TE:=λc H d=>∃a ι S Q,RS K ι H a c/\RH K ι H S/\W (evE cf b a S) Q/\∀v H',Lf K ι H Q v H'->d v H'
abbrev LfB(K:Frag)(ι:List Addr)(H:Hp)(Q:Bool->R.St->Prop):Bool->Hp->Prop:=λb H'=>∃ι' a,Ext ι H ι' H'/\RH K ι' H' a/\Q b a
abbrev tT(K:Frag)(cf:CF)(c:CE):TT:=λd H e=>∃a ι S Q,RS K ι H a d/\RH K ι H S/\W (evT cf c a S) Q/\∀b H',LfB K ι H Q b H'->e b H'
abbrev LfA(K:Frag)(ι:List Addr)(H:Hp)(Q:List D->R.St->Prop):List V->Hp->Prop:=λc H'=>∃a ι' b,Ext ι H ι' H'/\RVs K ι' H' a c/\RH K ι' H' b/\Q a b
abbrev tAs(K:Frag)(cf:CF)(a:CEs):TA:=λd H e=>∃b ι S Q,RS K ι H b d/\RH K ι H S/\W (evEs cf a b S) Q/\∀c H',LfA K ι H Q c H'->e c H'
inductive SqK(K:Frag)(ι:List Addr)(H:Hp)(S:R.St)(a:Addr)(xs:List V)(ds:List D)(lks:List Nat):Prop where
 |tmp (h:a∉ι) (e:H a=Φ (.lst xs)):SqK K ι H S a xs ds lks
 |tup (e:H a=Φ (.tup xs)):SqK K ι H S a xs ds lks
 |fix (e:FixL K H a xs):SqK K ι H S a xs ds lks
 |own (l:Nat) (hl:l∈lks) (hi:ι[l]?=Φ a) (hs:S.get l=Φ (.lst ds)) (e:H a=Φ (.lst xs)):SqK K ι H S a xs ds lks
abbrev Sq(K:Frag)(ι:List Addr)(H:Hp)(S:R.St)(v:V)(ds:List D)(b:List Nat):Prop:=∃a c,v=.ref a/\RVs K ι H ds c/\SqK K ι H S a c ds b
abbrev LfL(K:Frag)(ι:List Addr)(H:Hp)(Q:List D×List Nat->R.St->Prop):VK:=λv H'=>∃c a ι' b,Ext ι H ι' H'/\Sq K ι' H' b v c a/\RH K ι' H' b/\Q (c,a) b
abbrev tL(K:Frag)(cf:CF)(cl:CL):TE:=λb H c=>∃a ι S Q,RS K ι H a b/\RH K ι H S/\W (evL cf cl a S) Q/\∀v H',LfL K ι H Q v H'->c v H'
abbrev LfT(K:Frag)(ι:List Addr)(H:Hp)(Q:List D×List Nat->R.St->Prop):VK:=λv H'=>∃b ι' c a d,Ext ι H ι' H'/\v=.ref a/\RVs K ι' H' b d/\a∉ι'/\H' a=Φ (.lst d)/\RH K ι' H' c/\H a=Ψ/\Q (b,[]) c
abbrev tLt(K:Frag)(cf:CF)(cl:CL):TE:=λb H c=>∃a ι S Q,RS K ι H a b/\RH K ι H S/\W (evL cf cl a S) Q/\∀v H',LfT K ι H Q v H'->c v H'
def LfT.l{K}(h:LfT K ι H Q v H'):LfL K ι H Q v H':=by let⟨b,ι',c,a,d,x,rfl,r,f,e,g,_,q⟩:=h;exact⟨b,[],ι',c,x,⟨a,d,rfl,r,.tmp f e⟩,g,q⟩
def PE.imp(h:PE X e t)(i:∀a H Q,t' a H Q->t a H Q):PE X e t':=λb s a H Q I q=>h b s a H Q I (i a H Q q)
def PT.imp(h:PT X e t)(i:∀a H Q,t' a H Q->t a H Q):PT X e t':=λb s a H Q I q=>h b s a H Q I (i a H Q q)
def PW.imp(h:PW X e t)(i:∀a H Q,t' a H Q->t a H Q):PW X e t':=λc b s a H Q I q=>h c b s a H Q I (i a H Q q)
def PA.imp(h:PA X es t)(i:∀a H Q,t' a H Q->t a H Q):PA X es t':=λpos b s a H Q I q=>h pos b s a H Q I (i a H Q q)
def tE.run{K}(hs:RS K ι H δ e)(f:RH K ι H S)(w:W (evE cf a δ S) Q)(h:∀d v ι' H' b,Ext ι H ι' H'->RS K ι' H' δ e->RH K ι' H' b->RV K ι' H' d v->Q d b->g v H'):tE K cf a e H g:=
 ⟨δ,ι,S,Q,hs,f,w,λv H' z=>(by let⟨d,ι',b,x,r,c,q⟩:=z;exact h d v ι' H' b x (hs.ext x) c r q)⟩
def tT.run{K}(hs:RS K ι H δ e)(f:RH K ι H S)(w:W (evT cf a δ S) Q)(h:∀b ι' H' c,Ext ι H ι' H'->RS K ι' H' δ e->RH K ι' H' c->Q b c->g b H'):tT K cf a e H g:=
 ⟨δ,ι,S,Q,hs,f,w,λb H' z=>(by let⟨ι',c,x,d,q⟩:=z;exact h b ι' H' c x (hs.ext x) d q)⟩
def tAs.run{K}(hs:RS K ι H δ e)(f:RH K ι H S)(w:W (evEs cf a δ S) Q)(h:∀ds vs ι' H' b,Ext ι H ι' H'->RS K ι' H' δ e->RH K ι' H' b->RVs K ι' H' ds vs->Q ds b->g vs H'):tAs K cf a e H g:=
 ⟨δ,ι,S,Q,hs,f,w,λv H' z=>(by let⟨d,ι',b,x,r,c,q⟩:=z;exact h d v ι' H' b x (hs.ext x) c r q)⟩
def PE.ofT(h:PE X e (tLt X.K cf cl)):PE X e (tL X.K cf cl):=PE.imp h λd H f z=>(by let⟨a,ι,S,Q,b,c,w,q⟩:=z;exact ⟨a,ι,S,Q,b,c,w,λv H' l=>q v H' l.l⟩)
def tLt.run{K}(hs:RS K ι H δ d)(f:RH K ι H S)(w:W (evL cf a δ S) Q)(h:∀ds p xs ι' H' b,Ext ι H ι' H'->RS K ι' H' δ d->RH K ι' H' b->RVs K ι' H' ds xs->p∉ι'->H' p=Φ (.lst xs)->H p=Ψ->Q (ds,[]) b->g (.ref p) H'):tLt K cf a d H g:=
 ⟨δ,ι,S,Q,hs,f,w,λv H' z=>(by let⟨ds,ι',b,p,xs,x,e,r,i,j,c,k,q⟩:=z;exact e▸h ds p xs ι' H' b x (hs.ext x) c r i j k q)⟩
def tL.run{K}(hs:RS K ι H δ e)(f:RH K ι H S)(w:W (evL cf a δ S) Q)(h:∀ds b v ι' H' c,Ext ι H ι' H'->RS K ι' H' δ e->RH K ι' H' c->Sq K ι' H' c v ds b->Q (ds,b) c->g v H'):tL K cf a e H g:=
 ⟨δ,ι,S,Q,hs,f,w,λv H' z=>(by let⟨ds,b,ι',c,x,r,d,q⟩:=z;exact h ds b v ι' H' c x (hs.ext x) d r q)⟩
section
variable{T:Tab}{cf:CF}{k:Nat}{N:List Str}{sc:Scope}{X:Cx}{pos:Pos}
def zf8(h:W o Q):∃a S,o=.ok a S/\Q a S:=W.iff.mp h
def zaw(h:W (lift S o) Q):∃a,o=Φ a/\Q a S:=by cases o with|none=>exact h.elim|some a=>exact⟨a,rfl,h⟩
def zow(G:Gd T cf k N sc X)(b:N[i]?=Φ x)(c:zlD sc x=Γ)(f:(x==("__debug__":Str))=Δ)(g:(x==("__classdict__":Str))=Δ):PE X (.Name x pos) (tE X.K cf (.loc i)):=by
 refine PE.imp (zbW (i:=i) (by rw[G.nm];exact b) (G.vis c) f g) λp H s y=>?_;let⟨a,ι,S,Q,h,j,w,q⟩:=y;let⟨d,e,l⟩:=zaw w;have m:a[i]?=Φ (Φ d):=by
  cases z:a[i]? with
  |none=>rw[z]at e;exact nS e
  |some o=>rw[z]at e;simp at e;rw[e]
 let⟨v,n,r⟩:=h.2 i d m;exact⟨v,n,q v H (Lf.of j r l)⟩
def zox(h:conB d c=Γ):PE X (.Constant c j pos) (tE X.K cf (.con d)):=by
 have key:∀{v:V},PE X (.Constant c j pos) (tC v)->(∀K ι H,RV K ι H d v)->PE X (.Constant c j pos) (tE X.K cf (.con d)):=λ{v} b e=>PE.imp b λg H i z=>(by let⟨l,ι,S,Q,m,f,w,q⟩:=z;exact q v H (Lf.of f (e _ _ _) w))
 cases d<;>cases c<;>first
  |exact key zoJ λ_ _ _=>rfl
  |exact nB h
  |(simp![conB,beq_iff_eq]at h;subst h;exact key zgy λ_ _ _=>rfl)
  |(simp![conB,beq_iff_eq]at h;subst h;exact key zuD λ_ _ _=>rfl)
  |(simp![conB,beq_iff_eq]at h;subst h;exact key a λ_ _ _=>rfl)
def zpQ(G:Gd T cf k N sc X)(b:isGl sc x=Γ)(c:T.cons.lookup x=Φ d')(f:eqC d' d=Γ)(g:(x==("__debug__":Str))=Δ):PE X (.Name x pos) (tE X.K cf (.con d)):=by have e:=ztP f;subst e;let⟨a,u,h,r⟩:=G.tab.con x d' c;exact PE.imp (zk5 (G.gl b) h r g) λj H l z=>(by let⟨m,ι,S,Q,n,i,w,q⟩:=z;exact q (sV d') H (Lf.of i (zuv a) w))
def zst(j:PE X a (tE X.K cf m))(n:PE X b (tE X.K cf o)):PE X (.BinOp a op b pos) (tE X.K cf (.bin op m o)):=by refine PE.imp (zsX (zt0 op) j n) λI H J k=>?_;let⟨L,ι,S,Q,p,r,w,q⟩:=k;change W (Out.bind _ _) _ at w;simp![zab] at w;refine tE.run p r w λd v s M O t c f x y=>tE.run c f y λe u g U A i B h C E=>?_;exact⟨g,A,d,e,Q,x.ext i,C,h,E,λz G l=>q z G (Lf.up (t.trans i) l)⟩
def zsk(e:PE X a (tE X.K cf f)):PE X (.UnaryOp .USub a pos) (tE X.K cf (.neg f)):=by refine PE.imp (zuA zrQ e) λo H p z=>?_;let⟨r,ι,S,Q,g,h,w,q⟩:=z;change W (Out.bind _ _) _ at w;simp![zab] at w;refine tE.run g h w λd v j s t l m b n c=>?_;cases d with| int i=>obtain rfl:v=.int i:=n;exact⟨i,rfl,q _ _ (Lf.up l (Lf.of (d:=.int (-i)) b rfl c))⟩|_=>exact c.elim
def zup(e:PE X a (tE X.K cf f)):PE X (.UnaryOp .Not a pos) (tE X.K cf (.nt f)):=by refine PE.imp (zsY e) λo H p z=>?_;let⟨r,ι,S,Q,g,h,w,q⟩:=z;change W (Out.bind _ _) _ at w;simp![zab] at w;refine tE.run g h w λd v j s t l m b n c=>?_;cases d with| bl i=>obtain rfl:v=.bl i:=n;exact⟨i,rfl,q _ _ (Lf.up l (Lf.of (d:=.bl (!i)) b rfl c))⟩|_=>exact c.elim
def zss(G:Gd T cf k N sc X)(l:PE X a (tE X.K cf m))(f:PE X b (tE X.K cf n))(o:za6 b=Γ):PE X (.Compare a [op] [b] pos) (tE X.K cf (.cmp op m n)):=by refine PE.imp (zqx (ze1 G.hu op) l f (zfI o op)) λJ H L z=>?_;let⟨M,ι,S,Q,p,r,w,q⟩:=z;change W (Out.bind _ _) _ at w;simp![zab] at w;refine tE.run p r w λd v s O U t g h x y=>tE.run g h y λe u i Y A j B c C E=>?_;let⟨b,f,I⟩:=zaw E;exact⟨i,A,d,e,b,x.ext j,C,c,f,q _ _ (Lf.up (t.trans j) (Lf.of (d:=.bl b) c rfl I))⟩
def zr9(G:Gd T cf k N sc X)(m:PE X a (tE X.K cf n))(g:PE X b (tE X.K cf o))(p:za6 b=Γ):PT X (.Compare a [op] [b] pos) (tT X.K cf (.cmp op n o)):=by refine PT.imp (zkQ (ze1 G.hu op) m g (zfI p op)) λJ H L z=>?_;let⟨M,ι,S,Q,r,s,w,q⟩:=z;change W (Out.bind _ _) _ at w;simp![zab] at w;refine tE.run r s w λd v t O U x h i y A=>tE.run h i A λe u c Y j l B f C E=>?_;let⟨b,g,I⟩:=zaw E;exact⟨c,j,d,e,b,y.ext l,C,f,g,b,rfl,q _ _ ⟨c,j,x.trans l,f,I⟩⟩
def zpT(G:Gd T cf k N sc X)(A:PE X a (tE X.K cf B))(g:PE X b (tE X.K cf C))(E:PE X c (tE X.K cf I))(hm:za6 b=Γ)(j:za6 c=Γ):
  PE X (.Compare a [op,h] [b,c] pos) (tE X.K cf (.cmp2 op h B C I)):=by
 refine PE.imp (znu (ze1 G.hu op) (ze1 G.hu h) A g E (by simp[lastMarks,zfI j])) λσ H Qv z=>?_;let⟨δ,ι,S,Q,J,L,w,q⟩:=z;change W (Out.bind _ _) _ at w;simp![zab] at w;refine tE.run J L w λd v M H1 S1 t l m O U=>tE.run l m U λe u n H2 Y o p f x w2=>?_;let⟨b,g,r⟩:=zaw w2;refine⟨n,Y,d,e,b,O.ext o,x,f,g,b,rfl,?_⟩;cases b with|false=>exact q _ _ (Lf.up (t.trans o) (Lf.of (d:=.bl Δ) f rfl r))| true=>simp![if_true,zab]at r⊢;refine tE.run p f r λe' u' s H3 S3 y hs3 i r3 w4=>?_;let⟨b,g,w5⟩:=zaw w4;exact⟨s,S3,e,e',b,x.ext y,r3,i,g,q _ _ (Lf.up ((t.trans o).trans y) (Lf.of (d:=.bl b) i rfl w5))⟩
def zpu(G:Gd T cf k N sc X)(C:PE X a (tE X.K cf E))(g:PE X b (tE X.K cf I))(J:PE X c (tE X.K cf L))(hm:za6 b=Γ)(m:za6 c=Γ):
  PT X (.Compare a [op,h] [b,c] pos) (tT X.K cf (.cmp2 op h E I L)):=by
 refine PT.imp (znc (ze1 G.hu op) (ze1 G.hu h) C g J (by simp[lastMarks,zfI m])) λσ H Qv z=>?_;let⟨δ,ι,S,Q,M,O,w,q⟩:=z;change W (Out.bind _ _) _ at w;simp![zab] at w;refine tE.run M O w λd v U H1 S1 t n o Y w1=>tE.run n o w1 λe u i H2 x p r f y w2=>?_;let⟨b,g,s⟩:=zaw w2;refine⟨i,x,d,e,b,Y.ext p,y,f,g,b,rfl,?_⟩;cases b with|false=>exact⟨Δ,rfl,q _ _ ⟨i,x,t.trans p,f,s⟩⟩| true=>simp![if_true,zab]at s⊢;refine tE.run r f s λe' u' j H3 A B hs3 l r3 w4=>?_;let⟨b,g,w5⟩:=zaw w4;exact⟨j,A,e,e',b,y.ext B,r3,l,g,b,rfl,q _ _ ⟨j,A,(t.trans p).trans B,l,w5⟩⟩
def zoy(j:PE X a (tE X.K cf m))(n:PE X (.BoolOp .And (b::rest) pos) (tE X.K cf o)):PE X (.BoolOp .And (a::b::rest) pos) (tE X.K cf (.and m o)):=by
 refine PE.imp (zs3 j n) λy H A k=>?_;let⟨p,ι,S,Q,r,s,w,q⟩:=k;change W (Out.bind _ _) _ at w;simp![zab] at w;refine tE.run r s w λd v f B t i g e u h=>?_;cases d with
 |bl c=>obtain rfl:v=.bl c:=u;refine⟨c,rfl,?_⟩;cases c with|false=>exact q _ _ (Lf.up i (Lf.of (d:=.bl Δ) e rfl h))|true=>exact⟨p,f,t,Q,g,e,h,λz x l=>q z x (Lf.up i l)⟩
 |_=>exact h.elim
def zsj(j:PE X a (tE X.K cf m))(n:PE X (.BoolOp .Or (b::rest) pos) (tE X.K cf o)):PE X (.BoolOp .Or (a::b::rest) pos) (tE X.K cf (.or m o)):=by
 refine PE.imp (zuB j n) λy H A k=>?_;let⟨p,ι,S,Q,r,s,w,q⟩:=k;change W (Out.bind _ _) _ at w;simp![zab] at w;refine tE.run r s w λd v f B t i g e u h=>?_;cases d with
 |bl c=>obtain rfl:v=.bl c:=u;refine⟨c,rfl,?_⟩;cases c with|true=>exact q _ _ (Lf.up i (Lf.of (d:=.bl Γ) e rfl h))|false=>exact⟨p,f,t,Q,g,e,h,λz x l=>q z x (Lf.up i l)⟩
 |_=>exact h.elim
def LfB.up{K}(x:Ext ι H ι' H')(h:LfB K ι' H' Q b c):LfB K ι H Q b c:=by let⟨a,d,e,r⟩:=h;exact⟨a,d,x.trans e,r⟩
def zop(j:PT X a (tT X.K cf m))(n:PW X (.BoolOp .And (b::rest) pos) (tT X.K cf o)):PW X (.BoolOp .And (a::b::rest) pos) (tT X.K cf (.and m o)):=by refine PW.imp (zsP j n) λu H v k=>?_;let⟨p,ι,S,Q,r,s,w,q⟩:=k;change W (Out.bind _ _) _ at w;simp![zab] at w;refine tT.run r s w λc d x g h f e i=>?_;cases c with|false=>exact q _ _ ⟨d,g,h,e,i⟩|true=>exact⟨p,d,g,Q,f,e,i,λz t l=>q z t (LfB.up h l)⟩
def zr6(j:PT X a (tT X.K cf m))(n:PW X (.BoolOp .Or (b::rest) pos) (tT X.K cf o)):PW X (.BoolOp .Or (a::b::rest) pos) (tT X.K cf (.or m o)):=by refine PW.imp (zuy j n) λu H v k=>?_;let⟨p,ι,S,Q,r,s,w,q⟩:=k;change W (Out.bind _ _) _ at w;simp![zab] at w;refine tT.run r s w λc d x g h f e i=>?_;cases c with|true=>exact q _ _ ⟨d,g,h,e,i⟩|false=>exact⟨p,d,g,Q,f,e,i,λz t l=>q z t (LfB.up h l)⟩
def zum(e:PT X a (tT X.K cf f)):PT X (.UnaryOp .Not a pos) (tT X.K cf (.nt f)):=by refine PT.imp (zsQ e) λn H o z=>?_;let⟨p,ι,S,Q,g,h,w,q⟩:=z;change W (Out.bind _ _) _ at w;simp![zab] at w;exact tT.run g h w λc b r i j l d m=>q _ _ ⟨b,i,j,d,m⟩
def zrV(o:RH X.K ι H S)(r:RV X.K ι H d v)(h:tru S d=Φ b):TruV X.K v H b:=by
 cases d with
 |non=>obtain rfl:v=.non:=r;cases h;rfl|bl c=>obtain rfl:v=.bl c:=r;cases h;rfl|int i=>obtain rfl:v=.int i:=r;cases h;rfl| tup g=>let⟨a,f,rfl,j,m⟩:=r;cases h;refine .inr (.inl ⟨f,SqT.of j,?_⟩);have:=m.length;cases g<;>cases f<;>first|rfl|simp at this
 |ref l=>
  simp![tru]at h;split at h
  . rename_i g e;cases h;let⟨a,p,rfl⟩:=r;let⟨q,n,f,j,m⟩:=o.obj _ _ e;rw[p]at n;cases n;refine .inl ⟨f,SqL.of j,?_⟩;have:=m.length;cases g<;>cases f<;>first|rfl|simp at this
  exact nS h
 |_=>exact nS h
def zr5(f:PE X a (tE X.K cf g))(h:zix a=Γ):PT X a (tT X.K cf (.tst g)):=by refine PT.imp (znb f (zrU h X.env)) λt H u z=>?_;let⟨x,ι,S,Q,i,j,w,q⟩:=z;change W (Out.bind _ _) _ at w;simp![zab] at w;refine tE.run i j w λd v e y l m n c o p=>?_;let⟨b,r,s⟩:=zaw p;exact⟨b,zrV c o r,q _ _ ⟨e,l,m,c,s⟩⟩
def zsp(n:PT X c (tT X.K cf o))(p:PE X a (tE X.K cf r))(s:PE X b (tE X.K cf t)):PE X (.IfExp c a b pos) (tE X.K cf (.ite o r t)):=by refine PE.imp (znq n p s) λx H y k=>?_;let⟨h,ι,S,Q,u,v,w,q⟩:=k;change W (Out.bind _ _) _ at w;simp![zab] at w;refine tT.run u v w λc d A i j e f m=>?_;cases c with|true=>exact⟨h,d,i,Q,e,f,m,λz g l=>q z g (Lf.up j l)⟩|false=>exact⟨h,d,i,Q,e,f,m,λz g l=>q z g (Lf.up j l)⟩
def zoA:PA X [] (tAs X.K cf .nil):=PA.imp zeP λb H c z=>(by let⟨d,ι,S,Q,e,a,w,q⟩:=z;exact q [] H ⟨[],ι,S,Ext.refl _ _,rfl,a,by simpa[evEs]using w⟩)
def zkq(j:PE X e (tE X.K cf l))(a:PA X es (tAs X.K cf b))(m:zao e=Γ):PA X (e::es) (tAs X.K cf (.cons l b)):=by refine PA.imp (zby j a (zan m es X.env)) λE H G z=>?_;let⟨I,ι,S,Q,n,o,w,q⟩:=z;simp![evEs,zab]at w;refine tE.run n o w λd v p J L r c f s t=>tAs.run c f t λu x g M y i A h B C=>?_;exact q _ _ ⟨d::u,g,y,r.trans i,⟨v,x,rfl,s.ext i,B⟩,h,C⟩
def zsh(h:PA X es (tAs X.K cf a)):PE X (.Tuple es j pos) (tE X.K cf (.tup a)):=by refine PE.imp (zoH h) λo H r z=>?_;let⟨s,ι,S,Q,f,g,w,q⟩:=z;change W (Out.bind _ _) _ at w;simp![zab] at w;refine tAs.run f g w λt u i v x l m b e d=>?_;split at d;rename_i c;exact⟨by rw[e.length,Υ];exact c,λp n=>q _ _ (Lf.up l (Lf.tup b n e d))⟩;exact d.elim
def zso(h:PA X es (tAs X.K cf a)):PE X (.List es pos) (tE X.K cf (.lst a)):=by refine PE.imp (zsZ h) λo H r z=>?_;let⟨s,ι,S,Q,e,f,w,q⟩:=z;change W (Out.bind _ _) _ at w;simp![zab] at w;refine tAs.run e f w λt u g v x i j b d l=>?_;let⟨c,m⟩:=zd9 l;exact⟨by rw[d.length];exact c,λp n=>q _ _ (Lf.up i (Lf.lst b n d m))⟩
def zpS:PE X (.Dict [] [] pos) (tE X.K cf .dnew):=by refine PE.imp ziz λc H d z=>?_;let⟨e,ι,S,Q,f,a,w,q⟩:=z;intro p b;exact q _ _ ⟨.ref S.len,ι++[p],S.push (.dic []),Ext.obj a b _,⟨p,a.last p,rfl⟩,a.obj' b _ _ ⟨List.nodup_nil,[],zaf,rfl⟩,w⟩
def zuP(n:RH X.K ι H S)(r:RV X.K ι H d v)(o:zbh S d=Φ ds)(b:R.atI ds i=Φ e):∃u,rIx X.K v (.int i) H (λz H'=>z=u/\H'=H)/\RV X.K ι H e u:=by
 let⟨a,f,rfl,c,m⟩:=zou n o r;have p:=m.length;have key:∃u,L2.atI f i=Φ u/\RV X.K ι H e u:=by
  unfold R.atI at b;cases h:R.ixN ds.length i with
  |none=>rw[h]at b;exact nS b
  |some j=>
   rw[h]at b;let⟨u,g,l⟩:=m.get (show ds[j]?=Φ e from b);refine⟨u,?_,l⟩;unfold L2.atI;have:L2.ixN f.length i=Φ j:=by rw[p];exact h
   rw[this];exact g
 let⟨u,g,l⟩:=key;refine⟨u,?_,l⟩;rcases c with c|c;exact .inl ⟨a,f,i,u,rfl,rfl,c,g,rfl,rfl⟩;exact .inr (.inl ⟨a,f,i,u,rfl,rfl,c,g,rfl,rfl⟩)
def zqd{K}(h:rIx K x y H (λz H'=>z=u/\H'=H))(q:Q u H):rIx K x y H Q:=by rcases h with⟨p,f,i,v,a,b,d,e,rfl,_⟩|⟨p,f,i,v,a,b,d,e,rfl,_⟩|⟨z,i,c,a,b,d,e,g,_⟩;exact .inl ⟨p,f,i,v,a,b,d,e,q⟩;exact .inr (.inl ⟨p,f,i,v,a,b,d,e,q⟩);exact .inr (.inr ⟨z,i,c,a,b,d,e,by rw[g];exact q⟩)
def zur(l:PE X a (tE X.K cf m))(n:PE X b (tE X.K cf o))(p:zfC b=Γ):PE X (.Subscript a b pos) (tE X.K cf (.ix m o)):=by refine PE.imp (zuC ztG l n (zuQ p)) λO H U k=>?_;let⟨Y,ι,S,Q,r,s,w,q⟩:=k;change W (Out.bind _ _) _ at w;simp![zab] at w;refine tE.run r s w λd v t H1 S1 x f g y A=>tE.run f g A λe u B H2 S2 j C c E h=>?_;split at h;rename_i ds i G;let⟨z,I,J⟩:=zaw h;obtain rfl:u=.int i:=E;let⟨u,L,M⟩:=zuP c (y.ext j) G I;exact zqd L (q _ _ (Lf.up (x.trans j) (Lf.of c M J)));exact h.elim
end
section
variable{K:Frag}{ι ι':List Addr}{H H':Hp}{S T:R.St}{d:D}{v:V}
def zq8(a:T.frz=S.frz++S.new)(h:S.get l=Φ o):T.get l=Φ o:=by let⟨f,n,k⟩:=T;have a:f=S.frz++S.new:=a;subst a;exact zhT h n k
def RH.cut(m:RH K ι H S)(x:Ext ι H ι' H')(q:RH K ι' H' T)(u:T.frz=S.frz++S.new):RH K ι H' S:=by refine⟨m.len,m.nd,λl o e=>?_,q.tab⟩;let⟨a,r,j⟩:=m.obj l o e;let⟨b,s,k⟩:=q.obj l o (zq8 u e);rw[zbP x.pre r]at s;cases s;refine⟨a,r,?_⟩;cases o with| lst z=>let⟨A,_,f⟩:=j;let⟨g,h,i⟩:=k;exact⟨g,h,i.restrict x.pre f.flats⟩| dic n=>let⟨_,t,_,f⟩:=j;let⟨p,g,h,i⟩:=k;exact⟨p,g,h,i.restrict x.pre f.flats⟩| ins c B=>let⟨_,_,t,_,_,f⟩:=j;let⟨C,w,g,y,h,i⟩:=k;exact⟨C,w,g,y,h,i.restrict x.pre f.flats⟩| d3 n=>let⟨_,t,_,f⟩:=j;let⟨p,g,h,i⟩:=k;exact⟨p,g,h,i.restrict x.pre f.flats⟩
def Ext.cut(x:Ext ι H ι' H'):Ext ι H ι H':=⟨Ϡ _,x.kp,λa o h e=>⟨(x.rest a o h e).1,h⟩⟩
def zkU(c:ι <+: ι')(e:ι'.Nodup)(b:ι'[l]?=Φ a)(h:ι.length<=l):a∉ι:=λf=>by let⟨t,rfl⟩:=c;rw[getElem?_append_right h]at b;have g:=mem_of_getElem? b;exact(nodup_append.mp e).2.2 a f a g rfl
def zl1(x:Ext ι H ι' H')(g:ι'.Nodup)(f:ι'[l]?=Φ a)(h:ι.length<=l):Ext ι H (ι++[a]) H':=by refine⟨ϙ _ _,x.kp,λb o c e=>⟨(x.rest b o c e).1,λz=>?_⟩⟩;rcases mem_append.mp z with z|z;exact c z;simp at z;subst z;exact(x.rest b o c e).2 (mem_of_getElem? f)
def RH.one{l:Nat}{a:Addr}{o:MO}(f:RH K ι H' S)(i:a∉ι)(j:RO K (ι++[a]) H' a o):RH K (ι++[a]) H' (S.push o):=by
 refine⟨by rw[length_append,f.len,zcm];rfl,?_,λl k e=>?_,f.tab⟩;rw[nodup_append];refine⟨f.nd,by simp,λb m c h=>?_⟩;simp at h;subst h;exact λz=>i (z▸m);by_cases n:l<S.len;rw[zcH n]at e;let⟨b,p,q⟩:=f.obj l k e;exact⟨b,zbP (ϙ _ _) p,q.up (ϙ _ _) (Kp.refl _) rfl⟩;have g:=get_lt e;rw[zcm]at g;have:l=S.len:=by lia
 subst this;rw[zfT]at e;cases e;exact⟨a,by rw[<-f.len];simp,j⟩
def RH.keep(a:RH K ι' H' T)(c:T.frz=S.frz++S.new):RH K ι' H' ⟨S.frz,S.new++T.new,S.lk⟩:=by
 have g:∀l,(R.St.mk S.frz (S.new++T.new) S.lk).get l=T.get l:=λl=>by unfold St.get;rw[c];simp![length_append];by_cases b:l<S.frz.length;rw[if_pos b,if_pos (by omega),getElem?_append_left b];by_cases f:l<S.frz.length+S.new.length;rw[if_neg b,if_pos f,getElem?_append_left (by omega),getElem?_append_right (by omega)];rw[if_neg b,if_neg f,getElem?_append_right (by omega)];congr 1;omega
 refine⟨?_,a.nd,λl o e=>a.obj l o (by rw[<-g];exact e),a.tab⟩;rw[a.len];unfold St.len;rw[c];simp![length_append];omega
def ziH(g:RH K ι H S)(x:Ext ι H ι' H')(r:RV K ι' H' d v)(f:RH K ι' H' T)(h:T.frz=S.frz++S.new)(w:W (zcG S d T) Q):Lf K ι H Q v H':=by
 have m:=g.cut x f h;unfold zcG at w;split at w;rename_i c;rw[<-g.len]at c;exact⟨d,ι,S,x.cut,r.restrict x.pre c,m,w⟩;rename_i c;dsimp only at w;split at w;rename_i l;let⟨a,i,rfl⟩:=id r;have n:ι.length<=l:=by simp![R.flat,decide_eq_true_eq]at c;rw[g.len];lia
 have u:=zkU x.pre f.nd i n;split at w;rename_i y e;let⟨b,j,o⟩:=f.obj l _ e;rw[i]at j;cases j;split at w;rename_i k;rw[<-g.len]at k;let⟨p,q,s⟩:=o;refine⟨.ref S.len,ι++[a],S.push (.lst y),zl1 x f.nd i n,⟨a,by rw[<-g.len];simp,rfl⟩,m.one (l:=l) u ⟨p,q,(s.restrict x.pre k).up (ϙ _ _) (Kp.refl _)⟩,w⟩;exact⟨_,ι',_,x,r,f.keep h,w⟩;rename_i t e;let⟨b,j,o⟩:=f.obj l _ e;rw[i]at j;cases j;split at w;rename_i k;rw[<-g.len]at k;let⟨z,p,q,s⟩:=o;refine⟨.ref S.len,ι++[a],S.push (.dic t),zl1 x f.nd i n,⟨a,by rw[<-g.len];simp,rfl⟩,m.one (l:=l) u ⟨z,p,q,(s.restrict x.pre k).up (ϙ _ _) (Kp.refl _)⟩,w⟩;exact⟨_,ι',_,x,r,f.keep h,w⟩;exact⟨_,ι',_,x,r,f.keep h,w⟩;exact⟨_,ι',_,x,r,f.keep h,w⟩
end
section
variable{T:Tab}{cf:CF}{k:Nat}{N:List Str}{sc:Scope}{X:Cx}{pos p:Pos}
def RVs.nons{K}:∀j:Nat,RVs K ι H (List.replicate j .non) (List.replicate j .non)
 |0=>rfl|j+1=>⟨.non,List.replicate j .non,rfl,rfl,RVs.nons j⟩
def RH.enter{K}(h:RH K ι H S):RH K ι H S.enter:=⟨by rw[enter_len];exact h.len,h.nd,λl o e=>h.obj l o (by rw[zbe]at e;exact e),h.tab⟩
def zmi(b:CFok cf)(h:tE X.K cf (.call f j c) l H m):
  zfi (spF X.K cf f) (List.replicate j .non) E0 (tAs X.K cf c) l H m:=by
 let⟨C,ι,S,Q,n,o,w,q⟩:=h;change W (Out.bind _ _) _ at w;simp![zab] at w;refine tAs.run n o w λs E g G t u y a z i=>?_;unfold app at i;rw[zab]at i;refine⟨g,t.enter,s++List.replicate j .non,z.append (RVs.nons j),a.enter,?_⟩;let⟨d,I,e,A⟩:=zf8 i;rw[e];exact λv H' ι' x r B=>q v H' (Lf.up u (ziH a x r B (b _ _ _ _ _ e).frz A))
def zmo{K}(g:RH K b c S1)(x:Ext ι H b c)(d:c a=Ψ):H a=Ψ:=by
 cases e:H a with
 |none=>rfl| some o=>
  by_cases f:a∈ι;have h:a∈b:=by let⟨t,rfl⟩:=x.pre;exact mem_append_left _ f
  exact absurd h (g.fresh d)
  . have:=(x.rest a o f e).1;rw[d]at this;rcases this with z|⟨_,_,z⟩<;>exact nS z
def zpU(G:Gd T cf k N sc X)(d:T.fns[f]?=Φ (x,ps,c))(g:j<=c)(i:isGl sc x=Γ)(hd:(x==("__debug__":Str))=Δ)(l:PA X (e::es) (tAs X.K cf b))(a:(e::es).all zao=Γ):
  PE X (.Call (.Name x p) (e::es) [] pos) (tE X.K cf (.call f j b)):=by
 have Hs:=G.tab.fns f x ps c d j g;rw[all_cons,Ε]at a;exact PE.imp (zs1 Hs G.room l (G.gl i) hd (zan a.1 es X.env) (zaQ a.2)) λm H n h=>zmi G.tab.frm h
def zmT(G:Gd T cf k N sc X)(c:T.fns[f]?=Φ (x,ps,a))(g:j<=a)(h:isGl sc x=Γ)(hd:(x==("__debug__":Str))=Δ):
  PE X (.Call (.Name x p) [] [] pos) (tE X.K cf (.call f j .nil)):=by
 have Hs:=G.tab.fns f x ps a c j g;refine PE.imp (zs0 Hs G.room (G.gl h) hd) λm H n z=>?_;let⟨o,ι,S,Q,s,b,w,q⟩:=z;change W (Out.bind _ _) _ at w;simp![evEs,zas] at w;unfold app at w;rw[zab]at w;let⟨d,t,e,i⟩:=zf8 w;refine⟨ι,S.enter,[]++List.replicate j .non,RVs.append rfl (RVs.nons j),b.enter,?_⟩;rw[e];exact λv H' ι' x r l=>q v H' (ziH b x r l (G.tab.frm _ _ _ _ _ e).frz i)
def zjO(h:tE X.K cf (.callW f j a) i H l):
  zfi (spF X.K cf f) (List.replicate j .non) E0 (tAs X.K cf a) i H l:=by
 let⟨C,ι,S,Q,m,n,w,q⟩:=h;change W (Out.bind _ _) _ at w;simp![zab] at w;refine tAs.run m n w λo E b G s t u c y g=>?_;unfold appW at g;refine⟨b,s,o++List.replicate j .non,y.append (RVs.nons j),c,?_⟩;let⟨d,z,e,A⟩:=zf8 g;rw[e];exact λv H' ι' x r B=>q v H' (Lf.up t ⟨d,ι',z,x,r,B,A⟩)
def zmQ(G:Gd T cf k N sc X)(d:T.fns[f]?=Φ (x,ps,c))(g:j<=c)(i:isGl sc x=Γ)(hd:(x==("__debug__":Str))=Δ)(l:PA X (e::es) (tAs X.K cf b))(a:(e::es).all zao=Γ):
  PE X (.Call (.Name x p) (e::es) [] pos) (tE X.K cf (.callW f j b)):=by
 have Hs:=G.tab.fns f x ps c d j g;rw[all_cons,Ε]at a;exact PE.imp (zs1 Hs G.room l (G.gl i) hd (zan a.1 es X.env) (zaQ a.2)) λm H n h=>zjO h
def zuo{n:Nat}(f:PE X a (tE X.K cf r))(s:PE X e (tE X.K cf (.con (.int n)))):PE X (.Subscript a (.Slice Ψ (Φ e) Ψ p2) pos) (tE X.K cf (.sl r n)):=by refine PE.imp (ziy zor f zhD (zfz s)) λL H M z=>?_;let⟨t,ι,S,Q,u,x,w,q⟩:=z;change W (Out.bind _ _) _ at w;simp![zab] at w;refine tE.run u x w λd v y O j A g h B b=>?_;split at b;split at b;rename_i U c;refine tE.run g h (show W (evE cf (.con (.int n)) t j) λd T=>d=.int n/\T=j by exact⟨rfl,rfl⟩) λd v C Y S2 l E i G I=>?_;let⟨rfl,rfl⟩:=I;obtain rfl:v=.int n:=G;let⟨a,m,rfl,f,o⟩:=B.ext l;have hl:=o.length;refine⟨n,rfl,a,m,rfl,SqT.of f,?_,λp J=>q _ _ (Lf.up (A.trans l) (Lf.tup i J ?_ b))⟩;rw[HT.sIx_nat];lia;unfold cutV;rw[HT.sIx_nat,HT.sIx_none,List.drop_zero,show min n m.length-0=n by lia];exact o.take _;exact b.elim;exact b.elim
end
abbrev rB(K:Frag)(f:R.St->List D->Out D):List V->Hp->VK->Prop:=λc H d=>∃ι S a b,RVs K ι H a c/\RH K ι H S/\W (f S a) b/\∀v H',Lf K ι H b v H'->d v H'
section
variable{T:Tab}{cf:CF}{k:Nat}{N:List Str}{sc:Scope}{X:Cx}{pos p:Pos}
def RVs.one{K}(r:RVs K ι H [d] xs):∃v,xs=[v]/\RV K ι H d v:=by let⟨v,w,rfl,a,b⟩:=r;cases(show w=[] from b);exact⟨v,rfl,a⟩
def RVs.two{K}(r:RVs K ι H [d,e] xs):∃v u,xs=[v,u]/\RV K ι H d v/\RV K ι H e u:=by let⟨v,w,rfl,a,b⟩:=r;let⟨u,rfl,c⟩:=RVs.one b;exact⟨v,u,rfl,a,c⟩
def ztu:zbn X (.builtin "len") (rB X.K λS ds=>R.bi S .len ds):=by
 intro c s m H f n t I u z;let⟨ι,S,ds,E,r,j,w,q⟩:=z;rcases ds with _|⟨x,_|⟨y,_⟩⟩
 exact w.elim
 rotate_left;exact w.elim
 unfold bi at w;dsimp only at w
 let⟨v,rfl,y⟩:=r.one;split at w;let⟨a,f,rfl,g,i⟩:=y;refine zcd c s m H _ n t I u ⟨a,f,rfl,.inr (SqT.of g),?_⟩;rw[i.length];exact q _ _ (Lf.of (d:=.int _) j rfl w);let⟨a,f,rfl,g,i⟩:=y;refine zcd c s m H _ n t I u ⟨a,f,rfl,.inl g.sq,?_⟩;rw[i.length];exact q _ _ (Lf.of (d:=.int _) j rfl w);rename_i l;let⟨a,B,rfl⟩:=y;cases e:S.get l with|none=>rw[e]at w;exact w.elim| some o=>rw[e]at w;let⟨b,A,C⟩:=j.obj _ _ e;rw[B]at A;cases A;cases o with| lst ds=>let⟨f,g,i⟩:=C;refine zcd c s m H _ n t I u ⟨a,f,rfl,.inl (SqL.of g),?_⟩;rw[i.length];exact q _ _ (Lf.of (d:=.int _) j rfl w)|_=>exact w.elim
 exact w.elim
def zt8:zbn X (.builtin "abs") (rB X.K λS ds=>R.bi S .abs ds):=by
 intro a s b H l c e I f z;let⟨ι,S,ds,m,r,g,w,q⟩:=z;rcases ds with _|⟨x,_|⟨y,_⟩⟩
 exact w.elim
 . cases x with|int i=>let⟨v,rfl,j⟩:=r.one;obtain rfl:v=.int i:=j;exact zn9 a s b H _ c e I f ⟨i,rfl,q _ _ (Lf.of (d:=.int _) g rfl w)⟩|_=>exact w.elim
 cases x<;>exact w.elim
def ztj(b:X.calm=Γ):zbn X (.builtin "max") (rB X.K λS ds=>R.bi S .max2 ds):=by
 intro a s c H o e f I g z;let⟨ι,S,ds,t,r,l,w,q⟩:=z;rcases ds with _|⟨x,_|⟨y,_|⟨z,_⟩⟩⟩
 exact w.elim
 cases x<;>exact w.elim
 . cases x with|int i=>(cases y with|int j=>let⟨v,u,rfl,m,n⟩:=r.two;obtain rfl:v=.int i:=m;obtain rfl:u=.int j:=n;exact zmh b a s c H _ e f I g ⟨i,j,rfl,q _ _ (Lf.of (d:=.int _) l rfl w)⟩|_=>exact w.elim)|_=>exact w.elim
 . cases x<;>first|exact w.elim|(cases y<;>exact w.elim)
def zti(b:X.calm=Γ):zbn X (.builtin "min") (rB X.K λS ds=>R.bi S .min2 ds):=by
 intro a s c H o e f I g z;let⟨ι,S,ds,t,r,l,w,q⟩:=z;rcases ds with _|⟨x,_|⟨y,_|⟨z,_⟩⟩⟩
 exact w.elim
 cases x<;>exact w.elim
 . cases x with|int i=>(cases y with|int j=>let⟨v,u,rfl,m,n⟩:=r.two;obtain rfl:v=.int i:=m;obtain rfl:u=.int j:=n;exact zmg b a s c H _ e f I g ⟨i,j,rfl,q _ _ (Lf.of (d:=.int _) l rfl w)⟩|_=>exact w.elim)|_=>exact w.elim
 . cases x<;>first|exact w.elim|(cases y<;>exact w.elim)
def zbf(G:Gd T cf k N sc X)(h:bltB T sc x=Γ):Gl X x/\X.mg x=Ψ:=by unfold bltB at h;replace h:=qa1 h;exact⟨G.gl h.1,G.tab.blt x h.2⟩
def zus{id}(i:zbn X (.builtin id) (rB X.K λS ds=>R.bi S b ds))(h:Gl X x/\X.mg x=Ψ)(j:bootBuiltins x=Φ (.builtin id))(m:PA X (e::es) (tAs X.K cf c))(a:(e::es).all zao=Γ)(n:x≠"__name__")(d:(x==("__debug__":Str))=Δ):
  PE X (.Call (.Name x p) (e::es) [] pos) (tE X.K cf (.bi b c)):=by
 rw[all_cons,Ε]at a;refine PE.imp (zcU i h.1 h.2 j m n d (zan a.1 es X.env) (zaQ a.2)) λB H C z=>?_;let⟨E,ι,S,Q,o,r,w,q⟩:=z;change W (Out.bind _ _) _ at w;simp![zab] at w;refine tAs.run o r w λds G f I s t u g y A=>?_;exact⟨f,s,ds,Q,y,g,A,λv H' l=>q v H' (Lf.up t l)⟩
def zpm(r:RV X.K ι H d v)(h:tyOf S d=Φ a):zdJ H v=Φ a:=by cases d with|non=>obtain rfl:v=.non:=r;exact h|bl b=>obtain rfl:v=.bl b:=r;exact h|int b=>obtain rfl:v=.int b:=r;exact h| tup e=>let⟨p,f,rfl,c,_⟩:=r;simp![zdJ,c];exact h|_=>exact nS h
def zpO(G:Gd T cf k N sc X)(i:Gl X "isinstance"/\X.mg "isinstance"=Ψ)(j:Gl X y/\X.mg y=Ψ)(l:bootBuiltins y=Φ (.type t))(m:t∈["bool","int","str","list","tuple","dict"])(f:y≠"__name__")(g:(y==("__debug__":Str))=Δ)(n:PE X e (tE X.K cf o))(b:zao e=Γ):PE X (.Call (.Name "isinstance" p) [e,.Name y p2] [] pos) (tE X.K cf (.bi (.isin t) (.cons o .nil))):=by
 refine PE.imp (zcU zh5 i.1 i.2 zf6 (zby n (zby (zqA (v:=.ty t) j.1 j.2 l rfl f g) zeP) (zan b _ X.env)) (by decide) (by decide) (zan b _ X.env)) λE H I z=>?_;let⟨J,ι,S,Q,r,s,w,q⟩:=z;change W (Out.bind _ _) _ at w;simp![evEs,zab,W_ok] at w;refine tE.run r s w λd v u L x A B h C c=>?_;simp![bi]at c;cases e:tyOf x d with|none=>rw[e]at c;exact c.elim| some a=>rw[e]at c;exact⟨v,t,a,rfl,zpm C e,m,q _ _ (Lf.up A (Lf.of (d:=.bl _) h rfl c))⟩
def zlI(c:RH X.K ι H S)(r:RV X.K ι H d v)(h:isL S d=Γ):tyV X.K "list" v H:=by
 cases d with
 |ref l=>
  let⟨p,f,rfl⟩:=r;simp![isL]at h;cases e:S.get l with
  |none=>rw[e]at h;exact nB h
  |some o=>rw[e]at h;let⟨b,a,g⟩:=c.obj _ _ e;rw[f]at a;cases a;cases o with|lst m=>let⟨i,j,_⟩:=g;exact .inl ⟨rfl,i,SqL.of j⟩|_=>exact nB h
 |_=>exact nB h
abbrev rM(K:Frag)(m:Mt):V->List V->Hp->VK->Prop:=λx c H e=>∃ι S d a b,RV K ι H d x/\RVs K ι H a c/\RH K ι H S/\W (R.mt S m d a) b/\∀v H',Lf K ι H b v H'->e v H'
def zms:MtR X "list.append" (rM X.K .append):=by
 intro f s n H x Y v t A I B C z;let⟨ι,S,d,E,Qd,r,G,g,w,q⟩:=z;unfold R.mt at w;split at w
 case h_1 l y _=>let⟨a,i,rfl⟩:=r;let⟨u,rfl,J⟩:=G.one;cases e:S.get l with|none=>rw[e]at w;exact w.elim| some o=>rw[e]at w;let⟨b,j,L⟩:=g.obj _ _ e;rw[i]at j;cases j;cases o with| lst E=>let⟨M,O,m⟩:=L;let⟨c,S',Q,U⟩:=zmx w;refine zgA f s n H _ _ v t A I B C ⟨a,M,u,rfl,rfl,O,?_,?_⟩;rw[m.length];rw[length_append,List.length_singleton]at c;lia;exact q _ _ (Lf.wr (d:=.non) g e i Q (m.append ⟨u,[],rfl,J,rfl⟩) rfl U)|_=>exact w.elim
 all_goals first|exact w.elim|(rename_i h;cases h)
def znf:MtR X "list.pop" (rM X.K .popAt):=by
 intro f s J H x xs v L M I O Q z;let⟨ι,S,d,n,Qd,r,U,t,w,q⟩:=z;unfold R.mt at w;split at w
 case h_2 l i _=>
  let⟨a,A,rfl⟩:=r;let⟨u,rfl,g⟩:=U.one;obtain rfl:u=.int i:=g;cases e:S.get l with
  |none=>rw[e]at w;exact w.elim| some o=>
   rw[e]at w;let⟨b,B,Y⟩:=t.obj _ _ e;rw[A]at B;cases B;cases o with
   |lst n=>
    let⟨j,C,E⟩:=Y;dsimp only at w;split at w;rename_i c0;cases m:n[i.toNat]? with|none=>rw[m]at w;exact w.elim| some y=>rw[m]at w;let⟨c,S',hp,w2⟩:=zmx w;let⟨u,G,g⟩:=E.get m;have hlt:i.toNat<j.length:=(Α.mp G).1;have hz:j.length<=sizeLine:=(I.lstM C).1;rw[Υ]at hz;refine znz f s J H _ _ v L M I O Q ⟨a,j,i,i.toNat,u,rfl,rfl,C,by lia,by lia,?_,G,?_⟩;exact PySem.StrLaws.seqIndex_nonneg c0 (by lia);exact q _ _ (Lf.wr (d:=y) t e A hp (E.erase _) g w2)
    exact w.elim
   |_=>exact w.elim
 all_goals first|exact w.elim|(rename_i h;cases h)
def zdF:∀{ds:List D}{os:List (Option Int)},zbg ds=Φ os->ds=os.map λo=>match o with|some i=>D.int i|none=>D.non:=by intro ds;unfold zbg;induction ds with|nil=>intro os h;simp at h;subst h;rfl| cons d ds b=>intro os h;let⟨y,r,a,c,rfl⟩:=zaC h;rw[b c];cases d<;>simp[zga]at a<;>subst a<;>rfl
abbrev wV:Option Int->V
 |some i=>.int i|none=>.non
def zdA{K}:∀{os:List (Option Int)}{vs:List V},RVs K ι H (os.map λo=>match o with|some i=>D.int i|none=>D.non) vs->vs=os.map wV
 | [],_,h=>h| o::os,vs,h=>by let⟨v,r,rfl,a,b⟩:=h;rw[zdA b];cases o<;>rw[show v=_ from a]<;>rfl
abbrev isI(i:Int):Ξ->Bool
 |.int j _=>j==i|_=>Δ
def zdh(i):∀{os:List (Option Int)}{us:List Ξ},Vals (os.map wV) us->(∀y∈us,y=Ξ.none\/∃a u,y=Ξ.int a u)/\us.countP (isI i)=os.count (Φ i)
 | [],us,r=>by cases r;exact⟨λy b=>by simp at b,rfl⟩| o::os,us,r=>by
  cases r with
  | @cons _ u _ us c f=>
   let⟨d,e⟩:=zdh i f;cases o with
   |none=>obtain rfl:u=Ξ.none:=c;refine⟨λy b=>?_,?_⟩;rcases mem_cons.mp b with rfl|b;exact .inl rfl;exact d y b;rw[List.countP_cons,List.count_cons,e];simp[isI]
   |some j=>obtain⟨t,rfl⟩:∃t,u=Ξ.int j t:=c;refine⟨λy b=>?_,?_⟩;rcases mem_cons.mp b with rfl|b;exact .inr ⟨_,_,rfl⟩;exact d y b;rw[List.countP_cons,List.count_cons,e];simp[isI]
abbrev isN:Ξ->Bool
 |.none=>Γ|_=>Δ
def zej:∀{os:List (Option Int)}{us:List Ξ},Vals (os.map wV) us->us.countP isN=os.count Ψ
 | [],us,r=>by cases r;rfl| o::os,us,r=>by cases r with| @cons _ u _ us a c=>have b:=zej c;cases o with| none=>obtain rfl:u=Ξ.none:=a;rw[List.countP_cons,List.count_cons,b];simp[isN]| some j=>obtain⟨t,rfl⟩:∃t,u=Ξ.int j t:=a;rw[List.countP_cons,List.count_cons,b];simp[isN]
def zn6:MtR X "list.count" (rM X.K .count):=by
 intro pins s σ H x xs v us Qv I rx rv z;let⟨ι,S,d,G,Qd,r,rs,J,w,q⟩:=z;unfold R.mt at w;split at w
 case h_3 l i _=>
  let⟨a,M,rfl⟩:=r;let⟨u,rfl,O⟩:=rs.one;obtain rfl:u=.int i:=O;cases e:S.get l with
  |none=>rw[e]at w;exact w.elim| some o=>
   rw[e]at w;let⟨b,g,Q⟩:=J.obj _ _ e;rw[M]at g;cases g;cases o with
   |lst G=>let⟨zs,U,m⟩:=Q;dsimp only at w;cases e2:zbg G with|none=>rw[e2]at w;exact w.elim| some os=>rw[e2]at w;rw[zdF e2]at m;cases zdA m;let⟨c,L,Y,_⟩:=I.list (SqL.of U);let⟨u1,rfl,f⟩:=Vals.one rv;let⟨t,rfl⟩:=f;cases rx;let⟨c1,c2⟩:=zdh i L;have hl:=Y.isList;let⟨⟨cls,dd,A,sl⟩,B,C,n,E⟩:=id hl;simp only at C E;subst C E;refine call_meets PySem.F.slot_list_count ⟨_,B,rfl⟩ PySem.F.entry_list_count (PySem.F.args_list_count_2 _ _) (PySem.SeqAt.list_countAt a c.toArray n dd sl (.int i t) (isI i)) ⟨B,λy hy=>?_,?_⟩;rcases c1 y (by simpa using hy) with rfl|⟨j,u,rfl⟩;exact PySem.SeqAt.EqAt.none_int i t;exact PySem.SeqAt.EqAt.int_int j u i t;rw[show c.toArray.toList=c from rfl,c2];exact⟨.int _,H,I.tok _,⟨_,rfl⟩,q _ _ (Lf.of (d:=.int _) J rfl w)⟩
   |_=>exact w.elim
 case h_4 l _=>
  let⟨a,M,rfl⟩:=r;let⟨u,rfl,O⟩:=rs.one;obtain rfl:u=.non:=O;cases e:S.get l with
  |none=>rw[e]at w;exact w.elim| some o=>
   rw[e]at w;let⟨b,g,Q⟩:=J.obj _ _ e;rw[M]at g;cases g;cases o with
   |lst G=>let⟨zs,U,m⟩:=Q;dsimp only at w;cases e2:zbg G with|none=>rw[e2]at w;exact w.elim| some os=>rw[e2]at w;rw[zdF e2]at m;cases zdA m;let⟨c,L,Y,_⟩:=I.list (SqL.of U);let⟨u1,rfl,f⟩:=Vals.one rv;obtain rfl:=f;cases rx;let⟨c1,c2⟩:=zdh 0 L;have hl:=Y.isList;let⟨⟨cls,dd,A,sl⟩,B,C,n,E⟩:=id hl;simp only at C E;subst C E;refine call_meets PySem.F.slot_list_count ⟨_,B,rfl⟩ PySem.F.entry_list_count (PySem.F.args_list_count_2 _ _) (PySem.SeqAt.list_countAt a c.toArray n dd sl .none isN) ⟨B,λy hy=>?_,?_⟩;rcases c1 y (by simpa using hy) with rfl|⟨j,u,rfl⟩;exact PySem.SeqAt.EqAt.same _;exact PySem.SeqAt.EqAt.int_none j u;rw[show c.toArray.toList=c from rfl,zej L];exact⟨.int _,H,I.tok _,⟨_,rfl⟩,q _ _ (Lf.of (d:=.int _) J rfl w)⟩
   |_=>exact w.elim
 all_goals first|exact w.elim|(rename_i h;cases h)
def zpL{id}(b:Slot "list" name id)(i:typeOf (.builtin id)=pure (.type "method_descriptor"))(u:MtR X id (rM X.K m))(x:PE X o (tE X.K cf y))(A:PE X e (tE X.K cf B))(a:zao e=Γ)(f:zbd o=Γ)(C:(apos.endLine==cpos.line)=Γ):
  PE X (.Call (.Attribute o name apos) [e] [] cpos) (tE X.K cf (.mt m y (.cons B .nil))):=by
 refine PE.imp (zqz PySem.F.plainAttrs_list b i u x (zkq A zoA a) (zcL f name X.env _) (by rw[zan a];rfl) C (zan a [] X.env)) λσ H Qv k=>?_;let⟨δ,ι,S,Q,E,G,w,q⟩:=k;change W (Out.bind _ _) _ at w;simp![zab] at w;refine tE.run E G w λd v I H1 S1 J j g s h=>?_;split at h;rename_i c;refine⟨zlI g s c,?_⟩;rw[zab]at h;refine tAs.run j g h λL vs n H2 M t O r U Y=>?_;exact⟨n,M,d,L,Q,s.ext t,U,r,Y,λz H3 l=>q z H3 (Lf.up (J.trans t) l)⟩;exact h.elim
def SqK.seq{K}(h:SqK K ι H S a xs ds b):SqL K H a xs\/SqT K H a xs:=by cases h with|tmp h e=>exact .inl (SqL.of e)|tup e=>exact .inr (SqT.of e)|fix e=>exact .inl e.sq|own l c d f e=>exact .inl (SqL.of e)
def zsg(r:PE X e (tE X.K cf s)):PE X e (tL X.K cf (.val s)):=by
 refine PE.imp r λJ H L z=>?_;let⟨M,ι,S,Q,t,u,w,q⟩:=z;change W (Out.bind _ _) _ at w;simp![zab] at w;refine tE.run t u w λd v i x m y A c j B=>?_;let⟨C,b,E⟩:=zaw B;refine q v x ⟨C,lkOf m d,i,m,y,?_,c,E⟩;cases d with
 |tup G=>cases b;let⟨a,f,rfl,g,h⟩:=j;exact⟨a,f,rfl,h,.tup g⟩| fix G=>cases b;let⟨a,f,rfl,g,h⟩:=j;exact⟨a,f,rfl,h,.fix g⟩| ref l=>simp![zbh]at b;split at b;rename_i I e;cases b;let⟨a,n,rfl⟩:=j;let⟨O,o,f,g,h⟩:=c.obj _ _ e;rw[n]at o;cases o;exact⟨a,f,rfl,h,.own l (by simp[lkOf]) n e g⟩;exact nS b
 |_=>exact nS b
def zaV(b:PE X e c)(a:zao e=Γ):PA X [e] (zex c tNil):=zby b zeP (zan a [] X.env)
def zsl(G:Gd T cf k N sc X)(n:Gl X "tuple"/\X.mg "tuple"=Ψ)(x:PE X e (tL X.K cf cl))(f:zao e=Γ):PE X (.Call (.Name "tuple" p) [e] [] pos) (tE X.K cf (.mkT cl)):=by
 refine PE.imp (zbp zf2 n.1 n.2 zi3 (zaV x f) (by decide) (by decide) (zan f [] X.env)) λL H o z=>?_;let⟨M,ι,S,Q,r,y,w,q⟩:=z;change W (Out.bind _ _) _ at w;simp![zab] at w;refine tL.run r y w λA B v C b O s E g I i=>?_;split at i;rename_i c;let⟨a,j,rfl,t,J⟩:=I;have fresh:SqL X.K b a j->∃p m,[V.ref a]=[V.ref p]/\((SqL X.K b p m/\∀l,b l=Ψ->o (.ref l) (upd b l (.tup m)))\/(SqT X.K b p m/\o (.ref p) b)):=λh=>⟨a,j,rfl,.inl ⟨h,λl u=>q _ _ (Lf.up s (Lf.tup g u t i))⟩⟩;cases J with|tmp h e=>exact fresh (SqL.of e)|fix e=>exact fresh e.sq|own l u U r e=>exact fresh (SqL.of e)|tup e=>exact⟨a,j,rfl,.inr ⟨SqT.of e,q _ _ (Lf.up s (Lf.of (d:=.tup A) g ⟨a,j,rfl,e,t⟩ i))⟩⟩
 exact i.elim
def zsm(G:Gd T cf k N sc X)(f:Gl X "list"/\X.mg "list"=Ψ)(g:PE X e (tL X.K cf cl))(b:zao e=Γ):PE X (.Call (.Name "list" p) [e] [] pos) (tE X.K cf (.mkL cl)):=by refine PE.imp (zbp zg5 f.1 f.2 zmn (zaV g b) (by decide) (by decide) (zan b [] X.env)) λB H C z=>?_;let⟨E,ι,S,Q,h,i,w,q⟩:=z;change W (Out.bind _ _) _ at w;simp![zab] at w;refine tL.run h i w λI j v m J L n o d r s=>?_;let⟨c,t⟩:=zd9 s;let⟨a,u,rfl,x,y⟩:=r;exact⟨a,u,rfl,y.seq,λl A=>q _ _ (Lf.up n (Lf.lst d A x t))⟩
def zlb(h:tE X.K cf (.mkL cl) m H n):tLt X.K cf cl m H n:=by let⟨E,ι,S,Q,r,s,w,q⟩:=h;change W (Out.bind _ _) _ at w;simp![zab] at w;refine tLt.run r s w λt p u g G i d v a x y e A B=>?_;let⟨c,C⟩:=zd9 B;refine q _ _ ⟨.ref i.len,g++[p],i.push (.lst t),?_,⟨p,a.last p,rfl⟩,a.one (l:=0) y ⟨u,e,x.up (ϙ _ _) (Kp.refl _)⟩,C⟩;refine⟨d.pre.trans (ϙ _ _),d.kp,λb o j f=>⟨(d.rest b o j f).1,λz=>?_⟩⟩;rcases mem_append.mp z with z|z;exact(d.rest b o j f).2 z;simp at z;subst z;rw[A]at f;exact nS f
def zsr(A:PE X o (tE X.K cf B))(C:PE X e (tLt X.K cf cl))(f:zao e=Γ)(h:zbd o=Γ)(E:(apos.endLine==cpos.line)=Γ):
  PE X (.Call (.Attribute o "extend" apos) [e] [] cpos) (tE X.K cf (.ext B cl)):=by
 refine PE.imp (zqz PySem.F.plainAttrs_list PySem.F.slot_list_extend PySem.F.type_list_extend zgz A (zaV C f) (zcL h "extend" X.env _) (by rw[zan f];rfl) E (zan f [] X.env)) λσ H Qv z=>?_;let⟨δ,ι,S,Q,G,I,w,q⟩:=z;change W (Out.bind _ _) _ at w;simp![zab] at w;refine tE.run G I w λd v J H1 S1 L n i r m=>?_;split at m;rename_i c;refine⟨zlI i r c,?_⟩;rw[zab]at m;refine tLt.run n i m λds b M O H2 U s Y j t _ hb _ g=>?_;cases d with
 |ref l=>let⟨a,u,rfl⟩:=r.ext s;dsimp only at g;cases e:U.get l with|none=>rw[e]at g;exact g.elim| some o=>rw[e]at g;cases o with| lst es=>let⟨b',x,zs,ha,y⟩:=j.obj _ _ e;rw[u]at x;cases x;let⟨c2,S',hp,w3⟩:=zmx g;refine⟨a,b,zs,M,rfl,rfl,ha,hb,?_,q _ _ (Lf.up (L.trans s) (Lf.wr (d:=.non) j e u hp (y.append t) rfl w3))⟩;rw[y.length,t.length,<-length_append];exact c2|_=>exact g.elim
 |_=>exact g.elim
 exact m.elim
def zob:bootBuiltins "range"=Φ (.type "range"):=by decide +kernel
def zkJ:zbn X (.type "range") (λxs H Q=>∃j,xs=[.int j]/\∀p,H p=Ψ->Q (.ref p) (upd H p (.rng 0 j))):=by intro a s d H xs f Q I r h;let⟨j,rfl,q⟩:=h;let⟨u,rfl,c⟩:=r.one;let⟨t,rfl⟩:=c;refine call_range_1 ⟨.ref s.heap.objs.size,_,I.laid (o:=.rng 0 j) (λb g e=>Λ _ e) (le_refl _) ?_,rfl,q _ (I.hok.fresh (le_refl _))⟩;exact⟨_,_,_,Ζ _ rfl⟩
def znC(B:X.calm=Γ):zbn X (.type "list") (λxs H Q=>∃p b,xs=[.ref p]/\H p=Φ (.rng 0 b)/\-(2^62)<=b/\b<2^62/\b.toNat<=16777216/\∀l,H l=Ψ->Q (.ref l) (upd H l (.lst ((List.range b.toNat).map λ(j:Nat)=>.int j)))):=by
 intro w s σ H xs a Q I r h;let⟨p,b,rfl,C,E,G,x,q⟩:=h;let⟨u,rfl,J⟩:=r.one;cases(show u=Ξ.ref p from J);let⟨t,t2,t3,e⟩:=(show ObjOk X.prog X.w H s.heap p (.rng 0 b) from I.hok p _ C);have L:Builtin.Range.rangeSize 0 b 1=(b.toNat:Nat):=by rw[rangeSize_one];split<;>lia
 refine call_list_range (I.ok.hd B) e (small_one (by decide) (by decide) E G) L x λh' tk i c M O y=>?_;refine⟨.ref s.heap.objs.size,_,I.laid (o:=.lst _) M (le_refl _) ⟨?_,i.toList,c,?_,?_⟩,rfl,q _ (I.hok.fresh (le_refl _))⟩;rw[length_map,length_range,Υ];exact x;have key:∀(n:Nat)(a:List Ξ),a.length=n->(∀(j:Nat)(v:Ξ),a[j]?=Φ v->∃t,v=Ξ.int (0+(j:Int)*1) t)->Vals ((List.range n).map λ(j:Nat)=>V.int j) a:=by
  intro n;induction n with
  |zero=>intro a g _;cases a with
   |nil=>exact .nil|cons _ _=>simp at g
  |succ n U=>
   intro a g A;have d:a≠[]:=by intro z;subst z;simp at g
   have m:a=a.dropLast++[a.getLast d]:=(List.dropLast_concat_getLast d).symm;rw[List.range_succ,map_append,m];have f:a.dropLast.length=n:=by simp[g]
   refine Vals.append (U _ f λj v e=>A j v ?_) (.cons ?_ .nil);have Y:j<a.dropLast.length:=(Α.mp e).1;rw[m,getElem?_append_left Y];exact e;let⟨t,e⟩:=A n (a.getLast d) (by
    conv=>lhs;rw[m]
    rw[getElem?_append_right (by lia)];simp[f])
   exact⟨t,by simpa using e⟩
 exact key _ _ (by simpa using y.1) λj v e=>y.2 j v (by simpa using e);simpa using O
def zpM(G:Gd T cf k N sc X)(r:Gl X "list"/\X.mg "list"=Ψ)(s:Gl X "range"/\X.mg "range"=Ψ)(u:PE X a (tE X.K cf x))(b:zao a=Γ):
  PE X (.Call (.Name "list" p) [.Call (.Name "range" p2) [a] [] e] [] pos) (tE X.K cf (.mkL (.rng1 x))):=by
 have h:=zbp (p:=p2) (pos:=e) zkJ s.1 s.2 zob (zaV u b) (by decide) (by decide) (zan b [] X.env);refine PE.imp (zbp (znC G.calm) r.1 r.2 zmn (zaV h rfl) (by decide) (by decide) rfl) λO H U z=>?_;let⟨Y,ι,S,Q,y,A,w,q⟩:=z;change W (Out.bind (Out.bind _ _) _) _ at w;simp![zab]at w;refine tE.run y A w λd v i B S1 C E n I f=>?_;cases d with| int j=>obtain rfl:v=.int j:=I;dsimp only at f;split at f;rename_i c;let⟨J,L⟩:=zd9 f;refine⟨j,rfl,λt g=>⟨t,j,rfl,zaf,c.1,c.2,by simpa[Υ]using J,λl M=>?_⟩⟩;have o:=n.new g (.rng 0 j);refine q _ _ (Lf.up (C.trans (Ext.new g _)) (Lf.lst o M ?_ L));have:=RVs.ints (K:=X.K) (ι:=i) (H:=upd B t (.rng 0 j)) ((List.range j.toNat).map λ(m:Nat)=>(m:Int));rw[map_map,map_map]at this;exact this;exact f.elim|_=>exact f.elim
def zru{bs:List Bool}(h:ds.mapM zhd=Φ bs):ds=bs.map D.bl:=by
 induction ds generalizing bs with
 |nil=>
  have h:bs=[]:=by simpa using h.symm
  subst h;rfl
 |cons d ds b=>let⟨y,r,a,c,rfl⟩:=zaC h;cases d<;>simp[zhd]at a;subst a;rw[b c];rfl
def RVs.bls_eq{K}:∀{bs:List Bool}{vs:List V},RVs K ι H (bs.map D.bl) vs->vs=bs.map V.bl
 | [],_,h=>h| b::bs,vs,h=>by let⟨v,r,rfl,a,c⟩:=h;rw[RVs.bls_eq c,show v=.bl b from a];rfl
def zj3{bs:List Bool}(r:Vals (bs.map V.bl) us):us=bs.map Ξ.bool:=by induction bs generalizing us with|nil=>cases r;rfl| cons b bs a=>cases r with|cons c d=>rw[a d,show _=Ξ.bool b from c];rfl
def zmv(bs:List Bool):(List.range bs.length).all (λi=>bs.getD i Δ)=bs.all id:=by
 rw[Bool.eq_iff_iff,all_eq_true,all_eq_true];constructor;intro h b c;let⟨i,a,e⟩:=List.getElem_of_mem c;have:=h i (by simpa using a);rw[ϋ,Ι a,e]at this;exact this;intro h i a;have a:i<bs.length:=by simpa using a
 rw[ϋ,Ι a];exact h _ (List.getElem_mem a)
def zrz(L:X.calm=Γ):zbn X (.builtin "all") (λxs H Q=>∃(a:Addr) (bs:List Bool),xs=[.ref a]/\(SqL X.K H a (bs.map V.bl)\/SqT X.K H a (bs.map V.bl))/\Q (.bl (bs.all id)) H):=by
 intro m s M H xs us Q I r h;let⟨a,bs,rfl,A,q⟩:=h;let⟨u,rfl,U⟩:=r.one;cases(show u=Ξ.ref a from U);have hA:X.A.in1.in1.handled=Ψ:=I.ok.hd L;have B:X.A.in1.handled=Ψ:=I.ok.hd L;have O:∀(d:Array Ξ),d.toList=bs.map Ξ.bool->TruthOf X.prog X.w X.A.in1 (λi v=>d[i]?=Φ v) (λi=>bs.getD i Δ):=by
  intro d e i v s' Q' E' Y J;have f:d.toList[i]?=Φ v:=by rw[Array.getElem?_toList];exact Y
  rw[e,getElem?_map]at f;cases z:bs[i]? with
  |none=>rw[z]at f;exact nS f
  |some b=>rw[z]at f;simp![Option.map_some,Option.some.injEq]at f;subst f;dsimp only at J;rw[ϋ,z]at J;exact ϕ J
 have fin:∀(t:Heap)(y n:Nat)(C:Β)(it:Addr),n=bs.length->s.heap.objs.size=it->Inv X m M H C->C.os=s.os->(∀b o,b∉[it]->C.heap.get? b=Φ o->t.get? b=Φ o)->
   EP X m M Q (.bool ((List.range n).all λi=>bs.getD i Δ)) {C with heap:=t,toks:=y}:=by
  intro t y n C it hn hit I2 ho E;subst hn;rw[zmv];have fp:=I.fpOk (b:=it) (H':=H) (by lia) (I.hok.fresh (by lia));let⟨f0,f1,f2,f3,f4,f5⟩:=fp;exact⟨.bl _,H,I2.turned (it:=it) (λb o hb e=>E b o (by simpa using hb) e) f0 f1 f3 f4 f5,rfl,q⟩
 rcases A with A|A;let⟨g,G,w,hz⟩:=I.list A;have j:=zj3 G;have l:=G.length;refine call_all_walk (wpAny_pyIter_list w.isList ?_);have x:a≠s.heap.objs.size:=by let⟨o,n,e,_⟩:=w;exact ne_of_lt (Η e)
 refine⟨s.heap.objs.size,_,_,_,_,_,_,rfl,Walks.list B _ a x g.toArray,⟨⟨_,Ζ _ rfl,rfl,rfl⟩,w.isList.push _⟩,O g.toArray (by simpa using j),λt y E=>?_⟩;exact fin t y _ _ _ (by simpa using l.symm) rfl (I.kept (t':=s.toks) λb o e=>Λ _ e) rfl E;let⟨g,G,w,hz⟩:=I.tuple A;have j:=zj3 G;have l:=G.length;refine call_all_walk (wpAny_pyIter_tuple (show s.heap.IsTuple a g.toArray from w) ?_);have x:a≠s.heap.objs.size:=by let⟨o,e,_⟩:=w;exact ne_of_lt (Η e)
 refine⟨s.heap.objs.size,_,_,_,_,_,_,rfl,Walks.tuple B _ a x g.toArray,⟨⟨_,Ζ _ rfl,rfl,rfl⟩,?_⟩,O g.toArray (by simpa using j),λt y E=>?_⟩;let⟨o,e,c⟩:=w;exact⟨o,Λ _ e,c⟩;exact fin t y _ _ _ (by simpa using l.symm) rfl (I.kept (t':=s.toks) λb o e=>Λ _ e) rfl E
def zsu(G:Gd T cf k N sc X)(h:Gl X "all"/\X.mg "all"=Ψ)(l:PE X e (tL X.K cf cl))(f:zao e=Γ):PE X (.Call (.Name "all" p) [e] [] pos) (tE X.K cf (.all cl)):=by
 refine PE.imp (zcU (zrz G.calm) h.1 h.2 zt3 (zaV l f) (by decide) (by decide) (zan f [] X.env)) λC H E z=>?_;let⟨I,ι,S,Q,m,n,w,q⟩:=z;change W (Out.bind _ _) _ at w;simp![zab] at w;refine tL.run m n w λo r v s J L t u g x y=>?_;let⟨b,c,A⟩:=zaw y;unfold allD at c;cases e:o.mapM zhd with
 |none=>rw[e]at c;exact nS c
 |some i=>
  rw[e]at c;have c:b=i.all id:=by simpa using c.symm
  subst c;let⟨a,M,rfl,j,B⟩:=x;rw[zru e]at j;have:=j.bls_eq;subst this;exact⟨a,i,rfl,B.seq,q _ _ (Lf.up t (Lf.of (d:=.bl _) g rfl A))⟩
end
section
variable{prog:ϊ}{w:ό}{A:ϐ}{E:Ξ->Β->Prop}{s:Β}
noncomputable abbrev set0(b:Bool):Obj:={cls:=.type "set",dict:=Ψ,data:=.set #[] 0 (.fresh 0 0 b)}
set_option maxHeartbeats 6400000 in
def zkk(hc:A.handled=Ψ)(ht:IsTup s.heap t its)(hi:IntsAre its.toList ms)(hb:its.size+1<scanBound)(fin:∀(g:Heap)(tk:Nat),g.SetOf (intKind prog w) s.heap.objs.size (λz=>(firstMet (λi=>ms.getD i 0) its.size).any (·==z)) (firstMet (λi=>ms.getD i 0) its.size).length->
   (∀b o,b<s.heap.objs.size->s.heap.get? b=Φ o->g.get? b=Φ o)->Q (.ref s.heap.objs.size) {s with heap:=g,toks:=tk}):wpAny (model prog w) A (call (.type "set") [.ref t]) Q E s:=by
 let⟨mc,mt,hmro⟩:=F.called_set.mro;have c1:=F.called_set.made;have c2:=F.called_set.sub;refine wpAny_call (codeAny_of_tree ?_);show wpAny _ _ (callAny (.type "set") _) _ _ _;refine Ω ⟨Code.quiet_builtin _ (by decide +kernel),codeAny_builtin F.entry_type_call ?_⟩;rw[ϐ.under_plain (weight_type_call_type "set" [.ref t] []) rfl];have c3:=F.called_set.notType;have c4:=F.called_set.canCreate;have c5:=F.typeCall_set_1 (.ref t)
 repeat (any_goals (first|assumption|wp_step))
 refine Ϟ (code_set_new_1 (.ref t) (E:=E) (Q₁:=λo z=>∃led:Bool,o=.ref s.heap.objs.size/\z={s with heap:=s.heap.push (set0 led)}) λled=>⟨led,rfl,rfl⟩) λr z hr=>?_;cases r with
 |error e=>exact hr| ok fl=>
  cases fl with
  |ret o=>
   let⟨led,rfl,rfl⟩:=hr;have g0:(s.heap.push (set0 led)).get? s.heap.objs.size=Φ (set0 led):=Ζ _ rfl;have g1:Β.TypeIs {s with heap:=s.heap.push (set0 led)} (.ref s.heap.objs.size) "set":=⟨_,g0,rfl⟩;have c6:=F.called_set.init.lookup;have c7:=F.called_set.init.bind (.ref s.heap.objs.size)
   repeat (any_goals (first|assumption|wp_step))
   refine Ϟ (codeAny_call_builtin (R:=wants (λr z=>r=.none/\∃g tk,z={s with heap:=g,toks:=tk}/\
    g.SetOf (intKind prog w) s.heap.objs.size (λz=>(firstMet (λi=>ms.getD i 0) its.size).any (·==z)) (firstMet (λi=>ms.getD i 0) its.size).length/\
    (∀b o,b<s.heap.objs.size->s.heap.get? b=Φ o->g.get? b=Φ o)) E) F.called_set.init.plain F.entry_set_init (check_set_init_1 g1 ?_)) λr2 z2 hr2=>?_
   . let⟨⟨oc,od,oda,osl⟩,ho,hcl,nl,hda⟩:=id ht;simp only at hcl hda;subst hcl hda;have ho':(s.heap.push (set0 led)).get? t=Φ {cls:=.type "tuple",dict:=od,data:=.seq its nl,slots:=osl}:=Λ _ ho;have d1:=F.sub_tuple_set;have d2:=F.sub_tuple_frozenset;have d3:(Ξ.type "tuple" == Ξ.type "dict")=Δ:=by decide
     have ht1:(s.heap.push (set0 led)).IsTuple t its:=⟨_,ho',rfl,nl,rfl⟩;unfold Builtin.«set.__init__» noKeywords Builtin.Frozenset.updateFrom;generalize hPI:pyIter=PI
     wp_walk
     subst hPI;refine wpAny_pyIter_tuple ht1 ?_;refine Θ (wpAny_runValue ?_);have tl:t<s.heap.objs.size:=Η ho;have tn:t≠(s.heap.push (set0 led)).objs.size:=by rw[ώ];exact ne_of_lt (ϣ tl)
     have sn:s.heap.objs.size∉[(s.heap.push (set0 led)).objs.size,t]:=by rw[ώ];simp![mem_cons,not_mem_nil,or_false,not_or];exact⟨ne_of_lt (ϗ _),ne_of_gt tl⟩
     refine codeAny_set_update_loopS ((Walks.tuple (by simp[hc]) _ t tn its).toS) s.heap.objs.size sn (λi=>ms.getD i 0) (λi v hv=>IntsAre.int_at hi i v (by rw[Array.getElem?_toList];exact hv)) hb (its.size-0) 0 _ (by lia) (zero_le _)
      ⟨⟨_,Ζ _ rfl,rfl,rfl⟩,⟨_,Λ _ ho',rfl,nl,rfl⟩⟩ ?start ?last
     case start=>exact SetOf_congr ((setObjOf_fresh (knd:=intKind prog w) led).setOf (Λ _ g0) (by unfold scanBound;lia)) (λ_=>rfl) rfl
     case last=>rintro⟨g,gg,dd,tk,oo⟩ mv hS;obtain rfl:gg=s.gens:=mv.gens;obtain rfl:dd=s.drawn:=mv.drawn;obtain rfl:oo=s.os:=mv.os;show wpAny _ _ _ _ _ _;refine Ω ?_;show wpAny _ _ (ret Ξ.none) _ _ _;refine Ω ⟨rfl,g,tk,rfl,hS,λb o hb e=>mv.heap b o ?_ (Λ _ (Λ _ e))⟩;rw[ώ];simp![mem_cons,not_mem_nil,or_false,not_or];exact⟨ne_of_lt hb,ne_of_lt (ϣ hb)⟩
   cases r2 with
   |error e=>exact hr2| ok f2=>
    cases f2 with
    |ret r=>
     let⟨rfl,g,tk,rfl,hS,hk⟩:=hr2
     repeat (any_goals (first|assumption|wp_step))
     exact fin _ _ hS hk
    |_=>exact hr2.elim
  |_=>exact hr.elim
end
section
variable{T:Tab}{cf:CF}{k:Nat}{N:List Str}{sc:Scope}{X:Cx}{pos p p2 pos':Pos}
def zcY(ns):R.dedup ns=firstMet (λi=>ns.getD i 0) ns.length:=by
 unfold R.dedup firstMet;have e:(List.range ns.length).map (λi=>ns.getD i 0)=ns:=by apply ext_getElem?;intro i;rw[getElem?_map];by_cases h:i<ns.length;simp[h,ϋ];simp[h,List.getElem?_eq_none (Nat.le_of_not_lt h)]
 rw[e];congr 1;funext a x;unfold step_dedup;simp[List.contains_eq_any_beq]
def zmJ(y:X.calm=Γ):zbn X (.type "set") (λxs H Q=>∃(a:Addr) (ns:List Int),xs=[.ref a]/\(SqL X.K H a (ns.map V.int)\/SqT X.K H a (ns.map V.int))/\ns.length<4000/\∀p,H p=Ψ->∀S,Q (.ref p) (upd H p (.set S (R.dedup ns).length))):=by
 intro f s z H xs C Q I r h;let⟨a,ns,rfl,i,E,q⟩:=h;let⟨u,rfl,A⟩:=r.one;cases(show u=Ξ.ref a from A);have fresh:=I.hok.fresh (le_refl s.heap.objs.size);have lay:∀(g:Heap)(d n:Nat)(F:Int->Bool),n=(R.dedup ns).length->g.SetOf (intKind X.prog X.w) s.heap.objs.size F n->(∀b o,b<s.heap.objs.size->s.heap.get? b=Φ o->g.get? b=Φ o)->EP X f z Q (.ref s.heap.objs.size) {s with heap:=g,toks:=d}:=by intro g d n F B j l;subst B;exact⟨.ref s.heap.objs.size,_,I.laid (o:=.set F _) (λb o e=>l b o (Η e) e) (le_refl _) j,rfl,q _ fresh F⟩
 have x:X.A.handled=Ψ:=I.ok.hd y;rcases i with i|i;let⟨c,m,v,w⟩:=I.list i;have t:c.toArray.size=ns.length:=by rw[size_toArray,<-m.length,length_map]
 refine call_set_list x v.isList (zdf m) (by rw[t];unfold scanBound;lia) λg d j l=>lay g d _ _ ?_ j l;rw[zcY,t];let⟨c,m,v,w⟩:=I.tuple i;have t:c.toArray.size=ns.length:=by rw[size_toArray,<-m.length,length_map]
 refine zkk x v (zdf m) (by rw[t];unfold scanBound;lia) λg d j l=>lay g d _ _ ?_ j l;rw[zcY,t]
def zqV:zbn X (.builtin "len") (λxs H Q=>∃p S n,xs=[.ref p]/\H p=Φ (.set S n)/\n<4096/\Q (.int n) H):=by intro a s i H xs j Q I r h;let⟨p,S,n,rfl,b,l,q⟩:=h;let⟨u,rfl,c⟩:=r.one;cases(show u=Ξ.ref p from c);let⟨o,m,t,v,d,e,e3,_,_,_,f,g⟩:=(show ObjOk X.prog X.w H s.heap p (.set S n) from I.hok p _ b);subst g;exact call_len_set d e e3 f (by lia) ⟨.int _,H,I.tok _,⟨_,rfl⟩,q⟩
def zg0(ns):(R.dedup ns).length<=ns.length:=by rw[zcY];exact firstMet_length_le _ _
def zkm(G:Gd T cf k N sc X)(m:Gl X "len"/\X.mg "len"=Ψ)(n:Gl X "set"/\X.mg "set"=Ψ)(r:PE X e (tL X.K cf cl))(b:zao e=Γ):
  PE X (.Call (.Name "len" p) [.Call (.Name "set" p2) [e] [] pos'] [] pos) (tE X.K cf (.lenset cl)):=by
 have g:=zbp (p:=p2) (pos:=pos') (zmJ G.calm) n.1 n.2 zpa (zaV r b) (by decide) (by decide) (zan b [] X.env);refine PE.imp (zcU zqV m.1 m.2 zpb (zaV g rfl) (by decide) (by decide) rfl) λL H M z=>?_;let⟨O,ι,S,Q,s,t,w,q⟩:=z;change W (Out.bind _ _) _ at w;simp![zab] at w;refine tL.run s t w λu x v y U Y A B h C E=>?_;let⟨i,j,l⟩:=zaw E;split at l;rename_i c;let⟨a,xs,rfl,o,I⟩:=C;have j:zaD u=Φ i:=j;rw[zfP j]at o;have:=o.ints_eq;subst this;have hd:=zg0 i;refine⟨a,i,rfl,I.seq,c,λJ f F=>⟨J,F,_,rfl,zaf,by lia,?_⟩⟩;exact q _ _ (Lf.up (A.trans (Ext.new f _)) (Lf.of (d:=.int _) (h.new f _) rfl l));exact l.elim
end
end R
namespace R
open PySem
@[reducible]def Rise(xs:Array Nat):Prop:=xs.toList.Pairwise (· < ·)
def zfn(h:Rise xs)(a:i<j)(b:j<xs.size):xs[i]'(by lia)<xs[j]:=by have:=List.pairwise_iff_getElem.mp h i j (by simpa using(by lia:i<xs.size)) (by simpa using b) a;simpa using this
def zf5(xs)(j)(h:Rise xs):∀(f lo a:Nat),a-lo<=f->lo<=a->a<=xs.size->(∀i (b:i<xs.size),i<lo->xs[i]<j)->(∀i (b:i<xs.size),a<=i->j<=xs[i])->
  SetTable.below.go xs j f lo a<=xs.size/\(∀i (b:i<xs.size),i<SetTable.below.go xs j f lo a->xs[i]<j)/\∀i (b:i<xs.size),SetTable.below.go xs j f lo a<=i->j<=xs[i]
 |0,lo,a,o,p,d,g,k=>by
  have:lo=a:=by lia
  subst this;exact⟨d,g,k⟩
 |f+1,lo,a,o,p,d,g,k=>by
  unfold SetTable.below.go;by_cases c:lo<a;rw[if_pos c];have n:(lo+a)/2<xs.size:=by lia
  have e:xs.getD ((lo+a)/2) j=xs[(lo+a)/2]:=by simp[Array.getD,n]
  dsimp only;rw[e];by_cases l:xs[(lo+a)/2]<j;rw[if_pos l];refine zf5 xs j h f _ _ (by lia) (by lia) d (λi b m=>?_) k;by_cases q:i=(lo+a)/2;subst q;exact l;exact lt_trans (zfn h (show i<(lo+a)/2 by lia) n) l;rw[if_neg l];refine zf5 xs j h f _ _ (by lia) (by lia) (by lia) g λi b m=>?_;by_cases q:i=(lo+a)/2;subst q;lia;have:=zfn h (show(lo+a)/2<i by lia) b;lia;rw[if_neg c];have:lo=a:=by lia
  subst this;exact⟨d,g,k⟩
def zf4(h:Rise xs)(j):SetTable.below xs j<=xs.size/\(∀i (a:i<xs.size),i<SetTable.below xs j->xs[i]<j)/\∀i (a:i<xs.size),SetTable.below xs j<=i->j<=xs[i]:=zf5 xs j h xs.size 0 xs.size (by lia) (zero_le _) (le_refl _) (λi _ q=>by lia) (λi a q=>by lia)
def zjT(h:Rise xs)(b:i<xs.size):SetTable.below xs (xs[i]+1)=i+1:=by
 let⟨b1,b2,b3⟩:=zf4 h (xs[i]+1);have d:¬SetTable.below xs (xs[i]+1)<=i:=λc=>by have:=b3 i b c;lia
 by_cases c:i+1<SetTable.below xs (xs[i]+1);have a:i+1<xs.size:=by lia
 have e:=b2 (i+1) a c;have f:=zfn h (show i<i+1 by lia) a;lia;lia
def zjS(h:Rise xs):SetTable.below xs 0=0:=by let⟨b1,b2,b3⟩:=zf4 h 0;cases e:SetTable.below xs 0 with|zero=>rfl|succ n=>exact absurd (b2 0 (by lia) (by lia)) (Nat.not_lt_zero _)
def zhR(xs)(p)(x:a):(SetTable.insertAt xs p x).toList=xs.toList.take p++x::xs.toList.drop p:=by unfold SetTable.insertAt;simp[List.take_of_length_le]
def zhr(h:Rise xs)(n:xs[SetTable.below xs j]?≠Φ j):Rise (SetTable.insertAt xs (SetTable.below xs j) j):=by
 let⟨b1,b2,b3⟩:=zf4 h j;generalize SetTable.below xs j=p at *;unfold Rise;rw[zhR,List.pairwise_append];refine⟨h.sublist (List.take_sublist _ _),?_,?_⟩;rw[ϥ];refine⟨λy o=>?_,h.sublist (List.drop_sublist _ _)⟩;let⟨i,c,e⟩:=List.mem_iff_getElem.mp o;rw[List.getElem_drop]at e;have d:p+i<xs.size:=by simp at c;lia
 have e:xs[p+i]=y:=by simpa using e
 have q:=b3 (p+i) d (by lia);have u:xs[p+i]≠j:=λz=>by
  cases i with
  |zero=>exact n (by rw[Array.getElem?_eq_getElem (by lia)];exact congrArg Φ z)| succ i=>
   have r:p<xs.size:=by lia
   have:=zfn h (show p<p+(i+1) by lia) d;have:=b3 p r (le_refl _);lia
 lia;intro a s b f;let⟨i,c,e⟩:=List.mem_iff_getElem.mp s;rw[List.getElem_take]at e;have d:i<xs.size:=by simp at c;lia
 have g:i<p:=by simp at c;lia
 have e:xs[i]=a:=by simpa using e
 have q:=b2 i d g;rcases mem_cons.mp f with rfl|f;lia;let⟨m,t,k⟩:=List.mem_iff_getElem.mp f;rw[List.getElem_drop]at k;have l:p+m<xs.size:=by simp at t;lia
 have k:xs[p+m]=b:=by simpa using k
 have:=b3 (p+m) l (by lia);lia
def zhV(t)(g)(h):∀(f:Nat)(p:SetTable.Probe)(j:Nat)(d:Option Nat),(∀x,p.dummy=Φ x->t.slot x=.dummy)->SetTable.probe.go t g h f p=Φ (.empty j d)->t.slot j=.empty/\∀x,d=Φ x->t.slot x=.dummy
 |0,p,j,d,k,e=>by exact nS e| f+1,p,j,d,k,e=>by
  unfold SetTable.probe.go at e;have a:∀q:SetTable.Probe,(t.advance q).dummy=q.dummy:=λq=>by unfold SetTable.advance;split<;>rfl
  cases b:t.slot p.j with|empty=>rw[b]at e;cases e;exact⟨b,k⟩| dummy=>rw[b]at e;refine zhV t g h f _ j d (λx c=>?_) e;rw[a]at c;cases c;exact b| live i=>rw[b]at e;dsimp only at e;split at e;cases e;exact zhV t g h f _ j d (λx c=>k x (by rw[a]at c;exact c)) e
def zq9{t:SetTable}(e:t.freeSlot h=Φ (a,b)):t.place[SetTable.below t.place a]?≠Φ a:=by
 unfold SetTable.freeSlot at e;split at e;rename_i j d f;let⟨g,i⟩:=zhV t _ h _ _ j d (λx c=>by exact nS c) f;cases e;have key:∀x,(t.slot x=.empty\/t.slot x=.dummy)->t.place[SetTable.below t.place x]?≠Φ x:=λx c z=>by unfold SetTable.slot at c;dsimp only at c;rw[if_pos (by simpa using z)]at c;rcases c with q|q<;>cases q
 cases d with|none=>exact key j (.inl g)|some x=>exact key x (.inr (i x rfl))
 exact nS e
def zci(n):Rise (Array.range n):=by unfold Rise;rw[Array.toList_range];exact List.pairwise_lt_range
structure TOk(b:Bool)(t:SetTable):Prop where
 led:t.led=b
 rise:Rise t.place
def ztw(h:TOk b t)(es)(x)(v):TOk b (layNew t es x v).2.1:=by unfold layNew;split;rename_i a d e;have c:TOk b (t.put a).1:=⟨h.led,zhr h.rise (zq9 e)⟩;dsimp only;unfold SetTable.orStandIn;split;exact c;exact⟨c.led,zci _⟩;exact⟨h.led,zci _⟩
def zm1(h:TOk b t)(es)(n):TOk b (relayAll t es n).2.1:=by
 unfold relayAll;split;rename_i m o e;have d:TOk b m:=by
  unfold SetTable.relaid SetTable.laid at e;cases j:SetTable.layClean (SetTable.sizeAbove n-1) (es.map (·.1)) with
  |none=>rw[j]at e;exact nS e
  |some k=>
   rw[j]at e;cases e;refine⟨h.led,?_⟩;show Pairwise _ (List.map _ _);rw[pairwise_map,List.pairwise_filterMap];refine List.pairwise_lt_range.imp λ{x y} i a f c g=>?_;cases d:k.getD x Ψ with
   |none=>rw[d]at f;exact nS f
   |some u=>
    cases l:k.getD y Ψ with
    |none=>rw[l]at g;exact nS g
    |some p=>rw[d]at f;rw[l]at g;cases f;cases g;exact i
 dsimp only;split;exact d;exact⟨h.led,zci _⟩;exact⟨h.led,zci _⟩
end R
namespace R
open PySem PySem.Spec PyProof.Rows
section
variable{prog:ϊ}{w:ό}{A:ϐ}{E:Ξ->Β->Prop}{s:Β}
noncomputable abbrev byT(w:ό):Bool:=w.params.followText "set-order"
abbrev SetD(prog:ϊ)(w:ό)(h:Heap)(a:Addr)(S:Int->Bool)(n:Nat):Prop:=∃o b c t,h.get? a=Φ o/\o.ExactSet/\o.data=.set b c t/\ElemsOf (intKind prog w) b.toList/\(∀k,S k=Γ↔∃e∈b.toList,(intKind prog w).is k e.2=Γ)/\b.size<scanBound/\t.fits b.size=Γ/\b.size=n/\TOk (!byT w) t
def SetD.congr(x:SetD prog w h a S n)(e:∀k,S k=b k)(c:n=d):SetD prog w h a b d:=by let⟨o,f,g,t,i,j,l,m,p,q,r,u,v⟩:=x;exact⟨o,f,g,t,i,j,l,m,λk=>by rw[<-e k];exact p k,q,r,u.trans c,v⟩
def SetD.at(x:SetD prog w h a S n)(k:∀o,h.get? a=Φ o->h'.get? a=Φ o):SetD prog w h' a S n:=by let⟨o,b,c,t,d,r⟩:=x;exact⟨o,b,c,t,k o d,r⟩
def zke{h:Heap}(l:h.get? a=Φ o)(c:o.ExactSet)(hd:o.data=.set es ep t)(d:ElemsOf (intKind prog w) b.toList)(f:∀k,m k=Γ↔∃e∈b.toList,(intKind prog w).is k e.2=Γ)(g:b.size<scanBound)(i:t'.fits b.size=Γ)(n:TOk (!byT w) t'):
  (h.update a (Obj.putSet b t')).get? a=Φ {o with data:=.set b (ep+1) t'}/\SetD prog w (h.update a (Obj.putSet b t')) a m b.size:=by
 let⟨j,_⟩:=SetOf_store (knd:=intKind prog w) l c hd d f g i;exact⟨j,_,b,ep+1,t',j,c,rfl,d,f,g,i,rfl,n⟩
def zvd(hS:SetD prog w s.heap a S n)(hr:n+1<scanBound)(q:∀h' b,Heap.SameBut a s.heap h'->SetD prog w h' a (λz=>S z||decide (z=k)) (if S k then n else n+1)->Q b {s with heap:=h'}):
  wpAny (model prog w) A (setAddHashed a (.int k tk) ((intKind prog w).hash k)) Q E s:=by
 have h:(intKind prog w).is k (.int k tk)=Γ:=intKind_is _ _ _ _;let⟨o,x,ep,t,G,p,I,l,f,hb,U,hn,ht⟩:=hS;unfold setAddHashed setAddHashedIn;refine ϝ (Θ (wpAny_setState_of G I U ?_));dsimp only;rw[byScan_of (knd:=intKind prog w) rfl hb l];simp![↓reduceIte];unfold setAddByScan;refine Θ (Θ (wpAny_rule (Θ (wpAny_setScan_of h G I U l ?_))));cases hi:List.findIdx? (λe=>(intKind prog w).is k e.2) x.toList with
 |some j=>let⟨hj,Y,_⟩:=List.findIdx?_eq_some_iff_getElem.mp hi;have M:S k=Γ:=(f k).mpr ⟨_,List.getElem_mem hj,Y⟩;have:=q s.heap Δ (Heap.SameBut.refl _ _) ⟨o,x,ep,t,G,p,I,l,λz=>?_,hb,U,by rw[M];exact hn,ht⟩;exact Ω (Ω this);rw[<-f z];by_cases c:z=k;subst c;simp[M];simp[c]| none=>
  have M:S k=Δ:=by cases c:S k with|false=>rfl| true=>let⟨e,J,Y⟩:=(f k).mp c;have:=List.findIdx?_eq_none_iff.mp hi e J;rw[Y]at this;cases this
  have B:=layNew_perm t x ((intKind prog w).hash k) (.int k tk);have N:=layNew_fits t x ((intKind prog w).hash k) (.int k tk);have O:=ztw ht x ((intKind prog w).hash k) (.int k tk);dsimp only;generalize layNew t x ((intKind prog w).hash k) (.int k tk)=L at B N O⊢;let⟨d,t1,wd,gv⟩:=L;dsimp only at B N O⊢;rw[Array.toList_push]at B;have m1:ElemsOf (intKind prog w) d.toList:=(l.push h rfl).perm B;have m2:∀z,(S z||decide (z=k))=Γ↔∃e∈d.toList,(intKind prog w).is z e.2=Γ:=mem_push_iff h f B;have sz:d.size=n+1:=by rw[<-length_toList,B.length_eq,length_append,length_toList,hn];rfl
  have T:d.size<scanBound:=by rw[sz];exact hr
  have gw:∀(b:Bool){i:Β}{Q':Unit->Β->Prop},Q' () i->wpAny (model prog w) A (match b with|true=>rule "set.scan.the-table-gave-way"|false=>pure ()) Q' E i:=λb i Q' hq=>by cases b<;>first|exact Ω hq|exact wpAny_rule hq
  refine Θ (gw _ ?_);have fin:∀h' b,Heap.SameBut a s.heap h'->SetD prog w h' a (λz=>S z||decide (z=k)) d.size->Q b {s with heap:=h'}:=λh' b hs hD=>q h' b hs (by rw[M];rw[sz]at hD;exact hD);have m:∀g:SetTable,g.fits d.size=Γ->TOk (!byT w) g->wpAny (model prog w) A (do
    storeSet a d g
    if(!wd&&g.tooFull)=Γ then do
        (match (relayAll g d (SetTable.grown d.size)).2.2 with|true=>rule "set.scan.the-table-gave-way"|false=>pure ())
        storeSet a (relayAll g d (SetTable.grown d.size)).1 (relayAll g d (SetTable.grown d.size)).2.1
        pure (Φ Γ)
     else pure (Φ Γ)) (λr s'=>wpAny (model prog w) A (match r with|some u=>pure u|none=>setAddHashedIn a (.int k tk) ((intKind prog w).hash k) 99999) Q E s') E s:=by
   intro g f2 o2;let⟨k1,k2⟩:=zke (prog:=prog) (w:=w) G p I m1 m2 T f2 o2;refine Θ (wpAny_storeSet_of G I ?_ (fits_of_scanBound T));have sb:=Heap.SameBut.update s.heap a (Obj.putSet d g);split;have C:=relayAll_perm g d (SetTable.grown d.size);have r2:=relayAll_fits g d (SetTable.grown d.size);have r3:=zm1 o2 d (SetTable.grown d.size);generalize relayAll g d (SetTable.grown d.size)=L2 at C r2 r3⊢;let⟨e2,t3,g2⟩:=L2;dsimp only at C r2 r3⊢;have z2:e2.size=d.size:=by rw[<-length_toList,C.length_eq,length_toList]
   refine Θ (gw _ (Θ (wpAny_storeSet_of k1 rfl ?_ (fits_of_scanBound (by rw[z2];exact T)))));let⟨_,k4⟩:=zke (prog:=prog) (w:=w) k1 p rfl (m1.perm C) (λz=>(m2 z).trans ⟨λv=>(by let⟨e,J,qq⟩:=v;exact ⟨e,C.mem_iff.mpr J,qq⟩),λy=>(by let⟨e,J,qq⟩:=y;exact ⟨e,C.mem_iff.mp J,qq⟩)⟩) (by rw[z2];exact T) r2 r3;rw[z2]at k4;exact Ω (Ω (fin _ _ (sb.trans (Heap.SameBut.update _ a _)) k4));exact Ω (Ω (fin _ _ sb k2))
  split;refine Θ ?_;rw[hashByValue_scannable 8 (show(Ξ.int k tk).scannable=Γ from rfl)];exact Ω (m _ N O);exact Θ (Ω (m _ N O))
end
end R
section
set_option maxHeartbeats 8000000
namespace R
open PySem PySem.Spec PyProof.Rows
section
variable{prog:ϊ}{w:ό}{A:ϐ}{R:Result->Β->Prop}{I:Addr}{fp wr:List Addr}{G:Array GenState->Array GenState->Prop}{n:Nat}{P:Nat->Ξ->Prop}{St:Nat->Β->Prop}
def ztq(W:WalksS prog w A.in1 I fp wr G n P St)(a)(u:a∉fp)(c)(C:∀i v,P i v->∃t,v=.int (c i) t)(f:n+1<scanBound):
  ∀(m i:Nat)(s:Β),n-i=m->i<=n->St i s->SetD prog w s.heap a (λz=>(firstMet c i).any (·==z)) (firstMet c i).length->
   (∀s',Moved (a::wr) G s s'->SetD prog w s'.heap a (λz=>(firstMet c n).any (·==z)) (firstMet c n).length->R (.ok (.ret .none)) s')->
   codeAny (model prog w) A (.builtin "set.update.loop" ⟨[.ref a,.ref I],[]⟩) R s:=by
 have x:a∉wr:=λz=>u (W.sub _ z);have y:∀b∈wr,b∈a::wr:=λb z=>Κ _ z;intro m;induction m with
 |zero=>
  intro i s E J st g fin;obtain rfl:i=n:=by lia
  refine codeAny_builtin F.entry_set_update_loop ?_;rw[ϐ.under_plainId F.plain_set_update_loop _];show wpAny _ A.in1 (pyNext (.ref I)>>=_) _ _ s;refine Θ (W.done s _ _ st λs' d=>?_);show wpAny _ A.in1 (ret Ξ.none) _ _ s';exact Ω (fin s' (d.mono y) (g.at λo e=>d.heap a o x e))
 |succ m L=>
  intro i s E J st g fin;refine codeAny_builtin F.entry_set_update_loop ?_;rw[ϐ.under_plainId F.plain_set_update_loop _];show wpAny _ A.in1 (pyNext (.ref I)>>=_) _ _ s;refine Θ (W.item i s _ _ (by lia) st λv s' M h d=>?_);let⟨t,rfl⟩:=C i v M;have j:=g.at (h':=s'.heap) λo e=>d.heap a o x e;show wpAny _ A.in1 (holding [Ξ.int (c i) t] (setAdd a (.int (c i) t))>>=_) _ _ s';refine Θ (ϝ ?_);unfold setAdd;refine ϝ (Θ ((intKind prog w).pyHash (k:=c i) (intKind_is _ _ _ _) ?_));have room:(firstMet c i).length+1<scanBound:=by have:=firstMet_length_le c i;lia
  refine zvd (s:={s' with toks:=s'.toks+1}) j room λh' b B l=>?_;have p:SetD prog w h' a (λz=>(firstMet c (i+1)).any (·==z)) (firstMet c (i+1)).length:=l.congr (λz=>by rw[firstMet_succ,step_any]) (by rw[firstMet_succ,step_length]);refine Ω ⟨plainId_quiet F.plain_set_update_loop _,L (i+1) _ (by lia) (by lia) (W.frame _ s' _ _ h (le_succ _) λb f o e=>?_) p λN q r=>?_⟩;rw[B.2 b λz:b=a=>u (z▸f)];exact e;refine fin N (Moved.trans W.gtrans ((d.mono y).then_heap (le_succ _) λb o f e=>?_) q) r;rw[B.2 b λz:b=a=>f (by rw[z];exact Μ)];exact e
end
section
variable{prog:ϊ}{w:ό}{A:ϐ}{E:Ξ->Β->Prop}{s:Β}
noncomputable abbrev sD0(b:Bool):Obj:={cls:=.type "set",dict:=Ψ,data:=.set #[] 0 (.fresh 0 0 b)}
def zuK(a)(h:Q₁ (.ref s.heap.objs.size) {s with heap:=s.heap.push (sD0 (!byT w))}):codeAny (model prog w) A (.call (.builtin "set.__new__") ⟨[.type "set",a],[]⟩) (wants Q₁ E) s:=by
 refine codeAny_of_tree ?_;show wpAny _ A.in1 (do checkBuiltinCall "set.__new__" ⟨[.type "set",a],[]⟩;again (.builtin "set.__new__" ⟨[.type "set",a],[]⟩)) _ _ s;refine Θ (wpAny_of_eq (F.newCall_set_1 a) (Ω ⟨plainId_quiet F.plain_set_new _,codeAny_builtin F.entry_set_new ?_⟩));rw[ϐ.under_plainId F.plain_set_new _];unfold Builtin.«set.__new__» Builtin.Frozenset.newClass;have q:=sub_set_self;let⟨b,c,d,e,f⟩:=s;dsimp only
 wp_walk
 refine wpAny_askSetting (Ω ?_);dsimp only;simp![newObj];exact Θ (wpAny_alloc (Ω (Ω h)))
def zkl(hc:A.handled=Ψ)(hl:s.heap.IsList l its)(hi:IntsAre its.toList ms)(hb:its.size+1<scanBound)(fin:∀(g:Heap)(tk:Nat),SetD prog w g s.heap.objs.size (λz=>(firstMet (λi=>ms.getD i 0) its.size).any (·==z)) (firstMet (λi=>ms.getD i 0) its.size).length->
   (∀b o,b<s.heap.objs.size->s.heap.get? b=Φ o->g.get? b=Φ o)->Q (.ref s.heap.objs.size) {s with heap:=g,toks:=tk}):wpAny (model prog w) A (call (.type "set") [.ref l]) Q E s:=by
 let⟨mc,mt,hmro⟩:=F.called_set.mro;have c1:=F.called_set.made;have c2:=F.called_set.sub;refine wpAny_call (codeAny_of_tree ?_);show wpAny _ _ (callAny (.type "set") _) _ _ _;refine Ω ⟨Code.quiet_builtin _ (by decide +kernel),codeAny_builtin F.entry_type_call ?_⟩;rw[ϐ.under_plain (weight_type_call_type "set" [.ref l] []) rfl];have c3:=F.called_set.notType;have c4:=F.called_set.canCreate;have c5:=F.typeCall_set_1 (.ref l)
 repeat (any_goals (first|assumption|wp_step))
 refine Ϟ (zuK (.ref l) (E:=E) (Q₁:=λo z=>o=.ref s.heap.objs.size/\z={s with heap:=s.heap.push (sD0 (!byT w))}) ⟨rfl,rfl⟩) λr z hr=>?_;cases r with
 |error e=>exact hr| ok fl=>
  cases fl with
  |ret o=>
   let⟨rfl,rfl⟩:=hr;have g0:(s.heap.push (sD0 (!byT w))).get? s.heap.objs.size=Φ (sD0 (!byT w)):=Ζ _ rfl;have g1:Β.TypeIs {s with heap:=s.heap.push (sD0 (!byT w))} (.ref s.heap.objs.size) "set":=⟨_,g0,rfl⟩;have c6:=F.called_set.init.lookup;have c7:=F.called_set.init.bind (.ref s.heap.objs.size)
   repeat (any_goals (first|assumption|wp_step))
   refine Ϟ (codeAny_call_builtin (R:=wants (λr z=>r=.none/\∃g tk,z={s with heap:=g,toks:=tk}/\
    SetD prog w g s.heap.objs.size (λz=>(firstMet (λi=>ms.getD i 0) its.size).any (·==z)) (firstMet (λi=>ms.getD i 0) its.size).length/\
    (∀b o,b<s.heap.objs.size->s.heap.get? b=Φ o->g.get? b=Φ o)) E) F.called_set.init.plain F.entry_set_init (check_set_init_1 g1 ?_)) λr2 z2 hr2=>?_
   . let⟨⟨oc,od,oda,osl⟩,ho,hcl,nl,hda⟩:=id hl;simp only at hcl hda;subst hcl hda;have ho':(s.heap.push (sD0 (!byT w))).get? l=Φ {cls:=.type "list",dict:=od,data:=.seq its nl,slots:=osl}:=Λ _ ho;have d1:=F.sub_list_set;have d2:=F.sub_list_frozenset;have d3:(Ξ.type "list" == Ξ.type "dict")=Δ:=by decide
     have ht1:(s.heap.push (sD0 (!byT w))).IsList l its:=⟨_,ho',rfl,nl,rfl⟩;unfold Builtin.«set.__init__» noKeywords Builtin.Frozenset.updateFrom;generalize hPI:pyIter=PI
     wp_walk
     subst hPI;refine wpAny_pyIter_list ht1 ?_;refine Θ (wpAny_runValue ?_);have tl:l<s.heap.objs.size:=Η ho;have tn:l≠(s.heap.push (sD0 (!byT w))).objs.size:=by rw[ώ];exact ne_of_lt (ϣ tl)
     have sn:s.heap.objs.size∉[(s.heap.push (sD0 (!byT w))).objs.size,l]:=by rw[ώ];simp![mem_cons,not_mem_nil,or_false,not_or];exact⟨ne_of_lt (ϗ _),ne_of_gt tl⟩
     refine ztq ((Walks.list (by simp[hc]) _ l tn its).toS) s.heap.objs.size sn (λi=>ms.getD i 0) (λi v hv=>IntsAre.int_at hi i v (by rw[Array.getElem?_toList];exact hv)) hb (its.size-0) 0 _ (by lia) (zero_le _)
      ⟨⟨_,Ζ _ rfl,rfl,rfl⟩,ht1.push _⟩ ?start ?last
     case start=>exact⟨_,#[],0,_,Λ _ g0,⟨rfl,rfl,rfl⟩,rfl,λe he=>by simp at he,λk=>by simp[firstMet],by decide,by rfl,rfl,rfl,Pairwise.nil⟩
     case last=>rintro⟨g,gg,dd,tk,oo⟩ mv hS;obtain rfl:gg=s.gens:=mv.gens;obtain rfl:dd=s.drawn:=mv.drawn;obtain rfl:oo=s.os:=mv.os;show wpAny _ _ _ _ _ _;refine Ω ?_;show wpAny _ _ (ret Ξ.none) _ _ _;refine Ω ⟨rfl,g,tk,rfl,hS,λb o hb e=>mv.heap b o ?_ (Λ _ (Λ _ e))⟩;rw[ώ];simp![mem_cons,not_mem_nil,or_false,not_or];exact⟨ne_of_lt hb,ne_of_lt (ϣ hb)⟩
   cases r2 with
   |error e=>exact hr2| ok f2=>
    cases f2 with
    |ret r=>
     let⟨rfl,g,tk,rfl,hS,hk⟩:=hr2
     repeat (any_goals (first|assumption|wp_step))
     exact fin _ _ hS hk
    |_=>exact hr2.elim
  |_=>exact hr.elim
end
end R
end
namespace R
open PySem PySem.Spec PyProof.Rows
def zgX:entryFor table "set.__iter__"=Φ Builtin.«frozenset.__iter__»:=entryFor_alias (id':="frozenset.__iter__") (by kernel_rfl) rfl (by decide +kernel) (by kernel_rfl)
def slot_sit_next:Slot "set_iterator" "__next__" "set_iterator.__next__":=.of (owner:="set_iterator") (n:="__next__") (by rw[typeLookup_type,builtinLookup_eq_fast];kernel_rfl) (by decide +kernel) (by decide +kernel) (by decide +kernel) (by first|exact .inl (by decide +kernel)|exact .inr (by decide +kernel)) (by rw[isSubtype_type];kernel_rfl)
def zcb:entryFor table "set_iterator.__next__"=Φ Builtin.«set_iterator.__next__»:=entryFor_of_fast (by kernel_rfl)
def zbS(a):argsOk "set_iterator.__next__" ⟨[a],[]⟩:=by unfold argsOk;kernel_rfl
def zaO:Slot "set_iterator" "__iter__" "set_iterator.__iter__":=.of (owner:="set_iterator") (n:="__iter__") (by rw[typeLookup_type,builtinLookup_eq_fast];kernel_rfl) (by decide +kernel) (by decide +kernel) (by decide +kernel) (by first|exact .inl (by decide +kernel)|exact .inr (by decide +kernel)) (by rw[isSubtype_type];kernel_rfl)
def zcc:entryFor table "set_iterator.__iter__"=Φ Builtin.«dict_keyiterator.__iter__»:=entryFor_alias (id':="dict_keyiterator.__iter__") (by kernel_rfl) rfl (by decide +kernel) (by kernel_rfl)
def zbT(a):argsOk "set_iterator.__iter__" ⟨[a],[]⟩:=by unfold argsOk;kernel_rfl
section
variable{prog:ϊ}{w:ό}{A:ϐ}{E:Ξ->Β->Prop}{s:Β}{a j:Addr}{o:Obj}{es:Array (Int×Ξ)}{ep:Nat}{t:SetTable}
def zjM(c:n≠0)(h:∀i d',i<n->wpAny M A (k i) Q E {s with drawn:=d'}):wpAny M A (.choose src n k) Q E s:=λd p b=>by rw[Sem.wp_choose];exact⟨c,h _ _ (Nat.mod_lt _ (Nat.pos_of_ne_zero c)) d p b⟩
def zdg{b:Type}:∀(l:List b)(j:Nat)(h:j<l.length),(l[j]::l.eraseIdx j).Perm l
 |x::l,0,h=>List.Perm.refl _| x::l,j+1,h=>by
  have c:j<l.length:=by simpa using h
  have d:=zdg l j c;show(l[j]::x::l.eraseIdx j).Perm (x::l);exact(List.Perm.swap _ _ _).trans (d.cons x)
def ziV:∀(n:Nat)(xs:List d){s:Β}{Q:List d->Β->Prop},xs.length=n->(∀ys d',ys.Perm xs->Q ys {s with drawn:=d'})->wpAny (model prog w) A (drawOrder n xs) Q E s
 |0,xs,s,Q,b,h=>by cases List.length_eq_zero_iff.mp b;exact Ω (h [] s.drawn (List.Perm.refl _))|n+1,[],s,Q,b,h=>by cases b| n+1,x::xs,s,Q,b,h=>by unfold drawOrder;refine Θ (zjM (by simp) λi d' c=>Ω ?_);rw[Ι c];dsimp only;refine Θ (ziV n _ (by rw[List.length_eraseIdx_of_lt c];simp at b⊢;exact b) λys e f=>Ω (h _ e ?_));exact(f.cons _).trans (zdg _ _ c)
def zkZ(f):∀(n k:Nat)(left:List d)(out:Array d),left.length=n->(pickOrder.go f n k left out).toList.Perm (out.toList++left)
 |0,k,left,out,c=>by cases List.length_eq_zero_iff.mp c;unfold pickOrder.go;rw[Ϥ]| n+1,k,left,out,c=>by unfold pickOrder.go;have b:f k%left.length<left.length:=Nat.mod_lt _ (by lia);rw[Ι b];dsimp only;refine(zkZ f n (k+1) _ _ (by rw[List.length_eraseIdx_of_lt b];lia)).trans ?_;rw[Array.toList_push,append_assoc];exact List.Perm.append_left _ (zdg _ _ b)
def zkY(f)(xs:Array b):(pickOrder f xs).toList.Perm xs.toList:=by have:=zkZ f xs.size 0 xs.toList #[] (by simp);simpa[pickOrder]using this
abbrev SIt(h:Heap)(j a:Addr)(f:Ξ)(i n ep:Nat):Prop:=h.get? j=Φ {cls:=.type "set_iterator",dict:=Ψ,data:=.fields #[f,rawInt i,.ref a,rawInt n,rawInt ep],slots:=#[]}
def zih{f f' i:Nat}(b:SIt s.heap j a (rawInt f) i es.size ep)(e:s.heap.get? a=Φ o)(hd:o.data=.set es ep t)(g:t.fits es.size=Γ)(h:∀(A:ϐ)(E:Ξ->Β->Prop)(c:Option (Ξ×Nat)->Β->Prop),c (Φ (x,f')) s->wpAny (model prog w) A (setNext a f i ep) c E s)(q:∀h',SIt h' j a (rawInt f') (i+1) es.size ep->Heap.SameBut j s.heap h'->Q (Φ x) {s with heap:=h'}):wpAny (model prog w) A (pyNext (.ref j)) Q E s:=by
 have d:s.TypeIs (.ref j) "set_iterator":=⟨_,b,rfl⟩;unfold pyNext;refine Θ (wpAny_attempt (wpAny_callSpecial?_slot (name:=Str.ofString "__next__") d slot_sit_next (ϔ slot_sit_next d zcb ?_ (zbS _))));unfold Builtin.«set_iterator.__next__»;refine Θ (m:=slotArgs "__next__" 0 _) (Ω ?_);refine Θ (wpAny_fieldsOf b rfl ?_);show wpAny _ _ (setEntries a>>=_) _ _ s;refine Θ (wpAny_setEntries_of e hd g ?_);rw[if_neg (by simp)];refine Θ (h _ _ _ ?_);refine Θ (wpAny_setField_rec b (by simp) λk l n=>?_);refine Θ (wpAny_setField_rec (s:={s with heap:=k}) l (by simp) λp r u=>?_);exact Ω ⟨_,rfl,Ω (q p r (n.trans u))⟩
def zkj(g:A.handled=Ψ)(h:SIt s.heap j a f i es.size ep)(r:s.heap.get? a=Φ o)(hd:o.data=.set es ep t)(u:t.fits es.size=Γ)(l:∀(A:ϐ)(E:Ξ->Β->Prop)(m:Fin->Β->Prop),A.handled=Ψ->(∀h' e,Heap.ExtBut j s.heap h'->(∃c,h'.get? e=Φ c/\c.cls=.type "StopIteration")->E (.ref e) {s with heap:=h'})->wpAny (model prog w) A (Builtin.«set_iterator.__next__» ⟨[.ref j],[]⟩) m E s)(q:∀h',Heap.ExtBut j s.heap h'->Q Ψ {s with heap:=h'}):wpAny (model prog w) A (pyNext (.ref j)) Q E s:=by
 have d:s.TypeIs (.ref j) "set_iterator":=⟨_,h,rfl⟩;unfold pyNext;refine Θ (wpAny_attempt (wpAny_callSpecial?_slot (name:=Str.ofString "__next__") d slot_sit_next (ϔ slot_sit_next d zcb ?_ (zbS _))));refine l _ _ _ g λh' e k z=>?_;let⟨c,n,p⟩:=z;refine Θ (wpAny_isInstance (b:=Γ) (T:="StopIteration") ⟨c,n,p⟩ isSubtype_stop ?_);exact Ω (q h' k)
def zeL(d:A.handled=Ψ)(f:Heap.ExtBut j s.heap s'.heap)(b:s'={s with heap:=s'.heap})(h:∀h' e,Heap.ExtBut j s.heap h'->(∃c,h'.get? e=Φ c/\c.cls=.type "StopIteration")->E (.ref e) {s with heap:=h'}):
  wpAny (model prog w) A (do raiseNew (<-newExc (.type "StopIteration") []):Sem Fin) g E s':=by
 rw[b];refine Θ ?_;simp![newExc,newTuple];refine Θ (ϖ ?_ (by size_fits));refine Θ (m:=firstArgMember _ _) (wpAny_of_eq (a:=Ξ.none) (by first|rfl|(simp![firstArgMember];rfl)) (ϖ ?_ (by size_fits)));simp![raiseNew];refine Θ (wpAny_handled ?_);rw[d];exact Θ (Ω (wpAny_throw (h _ _ ((f.push _).push _) ⟨_,Ζ _ rfl,rfl⟩)))
def zii{f i:Nat}(g:A.handled=Ψ)(b:SIt s.heap j a (rawInt f) i es.size ep)(d:s.heap.get? a=Φ o)(hd:o.data=.set es ep t)(e:t.fits es.size=Γ)(h:∀(A:ϐ)(E:Ξ->Β->Prop)(c:Option (Ξ×Nat)->Β->Prop),c Ψ s->wpAny (model prog w) A (setNext a f i ep) c E s)(q:∀h',Heap.ExtBut j s.heap h'->Q Ψ {s with heap:=h'}):wpAny (model prog w) A (pyNext (.ref j)) Q E s:=by
 refine zkj g b d hd e (λA E c k l=>?_) q;unfold Builtin.«set_iterator.__next__»;refine Θ (m:=slotArgs "__next__" 0 _) (Ω ?_);refine Θ (wpAny_fieldsOf b rfl ?_);show wpAny _ _ (setEntries a>>=_) _ _ s;refine Θ (wpAny_setEntries_of d hd e ?_);rw[if_neg (by simp)];refine Θ (h _ _ _ ?_);refine Θ (wpAny_setField_rec b (by simp) λn r p=>?_);exact zeL (s:=s) (s':={s with heap:=n}) k p.extBut rfl l
abbrev PTg(h:Heap)(b:Addr)(ps:List Nat):Prop:=h.get? b=Φ {cls:=.type "tuple",data:=.seq (ps.map λ(p:Nat)=>rawInt p).toArray}
def zki(b:SIt s.heap j a (.ref d) i es.size ep)(e:s.heap.get? a=Φ o)(hd:o.data=.set es ep t)(f:t.fits es.size=Γ)(h:PTg s.heap d ps)(k:ps[i]?=Φ p)(l:es[p]?=Φ (hs,x))(q:∀h',SIt h' j a (.ref d) (i+1) es.size ep->Heap.SameBut j s.heap h'->Q (Φ x) {s with heap:=h'}):wpAny (model prog w) A (pyNext (.ref j)) Q E s:=by
 have g:s.TypeIs (.ref j) "set_iterator":=⟨_,b,rfl⟩;unfold pyNext;refine Θ (wpAny_attempt (wpAny_callSpecial?_slot (name:=Str.ofString "__next__") g slot_sit_next (ϔ slot_sit_next g zcb ?_ (zbS _))));unfold Builtin.«set_iterator.__next__»;refine Θ (m:=slotArgs "__next__" 0 _) (Ω ?_);refine Θ (wpAny_fieldsOf b rfl ?_);show wpAny _ _ (setEntries a>>=_) _ _ s;refine Θ (wpAny_setEntries_of e hd f ?_);rw[if_neg (by simp)];refine Θ (wpAny_seqItems h rfl ?_);have n:(ps.map λ(p:Nat)=>rawInt p).toArray[i]?=Φ (rawInt p):=by simp[k]
 show wpAny _ _ (match (ps.map λ(p:Nat)=>rawInt p).toArray[i]? with|some (.int c _)=>_|some _=>_|none=>_) _ _ s;rw[n];show wpAny _ _ (setNextDrawn a p ep>>=_) _ _ s;unfold setNextDrawn;refine Θ (Θ (wpAny_setState_of e hd f ?_));dsimp only;rw[if_neg (by simp),l];refine Ω ?_;refine Θ (wpAny_setField_rec b (by simp) λr u v=>?_);exact Ω ⟨_,rfl,Ω (q r u v)⟩
def zmH(f:A.handled=Ψ)(b:SIt s.heap j a (.ref g) i es.size ep)(d:s.heap.get? a=Φ o)(hd:o.data=.set es ep t)(e:t.fits es.size=Γ)(h:PTg s.heap g ps)(k:ps.length<=i)(q:∀h',Heap.ExtBut j s.heap h'->Q Ψ {s with heap:=h'}):wpAny (model prog w) A (pyNext (.ref j)) Q E s:=by
 refine zkj f b d hd e (λA E B l n=>?_) q;unfold Builtin.«set_iterator.__next__»;refine Θ (m:=slotArgs "__next__" 0 _) (Ω ?_);refine Θ (wpAny_fieldsOf b rfl ?_);show wpAny _ _ (setEntries a>>=_) _ _ s;refine Θ (wpAny_setEntries_of d hd e ?_);rw[if_neg (by simp)];refine Θ (wpAny_seqItems h rfl ?_);have r:(ps.map λ(p:Nat)=>rawInt p).toArray[i]?=Ψ:=by simp;exact k
 show wpAny _ _ (match (ps.map λ(p:Nat)=>rawInt p).toArray[i]? with|some (.int c _)=>_|some _=>_|none=>_) _ _ s;rw[r];refine Θ (wpAny_setField_rec b (by simp) λu v x=>?_);refine Θ (wpAny_setField_rec (s:={s with heap:=u}) v (by simp) λy C z=>?_);exact zeL (s:=s) (s':={s with heap:=y}) l (x.trans z).extBut rfl n
def zoP(b:byT w=Γ)(c:s.heap.get? a=Φ o)(hd:o.data=.set es ep t)(d:t.fits es.size=Γ)(q:Q ((pickOrder (w.params.setOrder a ep) es)[i]?.map λe=>(e.2,f)) s):wpAny (model prog w) A (setNext a f i ep) Q E s:=by
 unfold setNext;refine Θ (wpAny_setState_of c hd d ?_);dsimp only;unfold setsByText;refine Θ (Θ (wpAny_askSetting (Ω ?_)));rw[if_pos (show(model prog w).w.params.followText "set-order"=Γ from b)];rw[if_neg (by simp)];unfold setWalk;refine Θ (Θ (wpAny_setState_of c hd d ?_));dsimp only;unfold setsByText;refine Θ (Θ (wpAny_askSetting (Ω ?_)));rw[if_pos (show(model prog w).w.params.followText "set-order"=Γ from b)];exact Θ (wpAny_askSetting (Ω (Ω q)))
def zoQ(b:byT w=Δ)(c:s.heap.get? a=Φ o)(hd:o.data=.set es ep t)(d:t.fits es.size=Γ)(e:t.led=Γ)(g:(!t.plain&&decide (es.size>1))=Δ)(q:Q (match es[SetTable.below t.place f]?,t.place[SetTable.below t.place f]? with|some (_,x),Φ j=>Φ (x,j+1)|_,_=>Ψ) s):wpAny (model prog w) A (setNext a f i ep) Q E s:=by
 unfold setNext;refine Θ (wpAny_setState_of c hd d ?_);dsimp only;unfold setsByText;refine Θ (Θ (wpAny_askSetting (Ω ?_)));rw[if_neg (show ¬(model prog w).w.params.followText "set-order"=Γ by rw[show(model prog w).w.params.followText "set-order"=byT w from rfl,b];decide)];show wpAny _ _ (if(!t.plain&&decide (es.size>1))=Γ then _ else _) _ _ s;rw[if_neg (by rw[g];decide)];show wpAny _ _ ((if(!t.led&&!es.isEmpty)=Γ then unsupported "set:maker-not-led" else pure ())>>=_) _ _ s;rw[if_neg (by rw[e];simp)];exact Θ (Ω (Ω q))
@[reducible]def YP(b:List Ξ):Nat->Ξ->Prop:=λi v=>b[i]?=Φ v
def zrG(v:A.handled=Ψ)(m:a≠j)(c:byT w=Γ)(hd:o.data=.set es ep t)(l:t.fits es.size=Γ) :
  Walks prog w A j [j,a] [j] ((pickOrder (w.params.setOrder a ep) es).toList.map (·.2)).length (YP ((pickOrder (w.params.setOrder a ep) es).toList.map (·.2))) (λi h=>SIt h j a (rawInt 0) i es.size ep/\h.get? a=Φ o) where
 sub:=λb c=>by simp at c;simp[c]
 frame:=λ_ _ _ st r=>⟨r j (by simp) _ st.1,r a (by simp) _ st.2⟩
 item:=λi s Q E y st f=>by
  have d:i<(pickOrder (w.params.setOrder a ep) es).size:=by simpa using y
  refine zih (x:=(pickOrder (w.params.setOrder a ep) es)[i].2) (f':=0) st.1 st.2 hd l (λA E B q=>zoP c st.2 hd l (by rw[Array.getElem?_eq_getElem d];exact q)) λn g u=>?_;exact f _ n s.toks (by simp[YP,d]) ⟨g,u.extBut a _ m st.2⟩ λb o c e=>u.extBut b o (λz=>c (by simp[z])) e
 done:=λs Q E st f=>by
  have d:(pickOrder (w.params.setOrder a ep) es).size<=((pickOrder (w.params.setOrder a ep) es).toList.map (·.2)).length:=by simp
  exact zii v st.1 st.2 hd l (λA E B q=>zoP c st.2 hd l (by rw[Array.getElem?_eq_none d];exact q)) λn k=>f n s.toks λb o c e=>k b o (λz=>c (by simp[z])) e
 self:=λi s Q E st f=>by have p:s.TypeIs (.ref j) "set_iterator":=⟨_,st.1,rfl⟩;refine wpAny_pyIter_slot p zaO (ϔ zaO p zcc ?_ (zbT _));show wpAny _ _ (ret (.ref j)) _ _ s;exact Ω ⟨_,rfl,"set_iterator",_,p,slot_sit_next.lookup,f⟩
abbrev zig(t:SetTable):Nat->Nat
 |0=>0|i+1=>t.place.getD i 0+1
def zeN(h:Rise t.place)(c:i<=t.place.size):SetTable.below t.place (zig t i)=i:=by
 cases i with
 |zero=>exact zjS h| succ i=>
  have b:i<t.place.size:=by lia
  show SetTable.below t.place (t.place.getD i 0+1)=_;rw[show t.place.getD i 0=t.place[i] by simp[Array.getD,b]];exact zjT h b
def zrH(G:A.handled=Ψ)(n:a≠j)(c:byT w=Δ)(hd:o.data=.set es ep t)(d:t.fits es.size=Γ)(m:TOk (!byT w) t)(y:(!t.plain&&decide (es.size>1))=Δ) :
  Walks prog w A j [j,a] [j] (es.toList.map (·.2)).length (YP (es.toList.map (·.2))) (λi h=>i<=es.size/\SIt h j a (rawInt (zig t i)) i es.size ep/\h.get? a=Φ o) where
 sub:=λb c=>by simp at c;simp[c]
 frame:=λ_ _ _ st B=>⟨st.1,B j (by simp) _ st.2.1,B a (by simp) _ st.2.2⟩
 item:=λi s Q E I st l=>by
  have f:i<es.size:=by simpa using I
  have J:t.place.size=es.size:=by simp![SetTable.fits,Ε,beq_iff_eq]at d;exact d.1
  have p:t.led=Γ:=by rw[m.led,c];rfl
  have r:t.place[i]?=Φ t.place[i]:=Array.getElem?_eq_getElem (by omega);refine zih (x:=es[i].2) (f':=zig t (i+1)) st.2.1 st.2.2 hd d (λA E L q=>zoQ c st.2.2 hd d p y ?_) λu g C=>?_;rw[zeN m.rise (by omega),Array.getElem?_eq_getElem f,r];have:zig t (i+1)=t.place[i]+1:=by show t.place.getD i 0+1=_;simp[Array.getD,show i<t.place.size by omega]
  rw[this]at q;exact q;exact l _ u s.toks (by simp[YP,f]) ⟨f,g,C.extBut a _ n st.2.2⟩ λb o c e=>C.extBut b o (λz=>c (by simp[z])) e
 done:=λs Q E st l=>by
  have J:t.place.size=es.size:=by simp![SetTable.fits,Ε,beq_iff_eq]at d;exact d.1
  have p:t.led=Γ:=by rw[m.led,c];rfl
  have M:(es.toList.map (·.2)).length=es.size:=by simp
  rw[M]at st;refine zii G st.2.1 st.2.2 hd d (λA E L q=>zoQ c st.2.2 hd d p y ?_) λu k=>l u s.toks λb o c e=>k b o (λz=>c (by simp[z])) e;rw[zeN m.rise (by omega),Array.getElem?_eq_none (le_refl _)];exact q
 self:=λi s Q E st l=>by have v:s.TypeIs (.ref j) "set_iterator":=⟨_,st.2.1,rfl⟩;refine wpAny_pyIter_slot v zaO (ϔ zaO v zcc ?_ (zbT _));show wpAny _ _ (ret (.ref j)) _ _ s;exact Ω ⟨_,rfl,"set_iterator",_,v,slot_sit_next.lookup,l⟩
abbrev zhE(es:Array (Int×Ξ))(ps:List Nat):List Ξ:=ps.map λp=>(es.getD p (0,.none)).2
def zrI{d:Addr}{ps:List Nat}(C:A.handled=Ψ)(n:a≠j)(q:d≠j)(hd:o.data=.set es ep t)(B:t.fits es.size=Γ)(G:∀p∈ps,p<es.size) :
  Walks prog w A j [j,a,d] [j] (zhE es ps).length (YP (zhE es ps)) (λi h=>SIt h j a (.ref d) i es.size ep/\h.get? a=Φ o/\PTg h d ps) where
 sub:=λb f=>by simp at f;simp[f]
 frame:=λ_ _ _ st r=>⟨r j (by simp) _ st.1,r a (by simp) _ st.2.1,r d (by simp) _ st.2.2⟩
 item:=λi s Q E I st l=>by
  have c:i<ps.length:=by simpa[zhE]using I
  have m:ps[i]<es.size:=G _ (List.getElem_mem c);refine zki (p:=ps[i]) (hs:=es[ps[i]].1) (x:=es[ps[i]].2) st.1 st.2.1 hd B st.2.2 (Ι c) (Array.getElem?_eq_getElem m) λu g v=>?_;exact l _ u s.toks (by simp[YP,zhE,c,Array.getD,m]) ⟨g,v.extBut a _ n st.2.1,v.extBut d _ q st.2.2⟩ λb o f e=>v.extBut b o (λz=>f (by simp[z])) e
 done:=λs Q E st l=>zmH C st.1 st.2.1 hd B st.2.2 (by simp[zhE]) λu k=>l u s.toks λb o f e=>k b o (λz=>f (by simp[z])) e
 self:=λi s Q E st l=>by have y:s.TypeIs (.ref j) "set_iterator":=⟨_,st.1,rfl⟩;refine wpAny_pyIter_slot y zaO (ϔ zaO y zcc ?_ (zbT _));show wpAny _ _ (ret (.ref j)) _ _ s;exact Ω ⟨_,rfl,"set_iterator",_,y,slot_sit_next.lookup,l⟩
def zni(es)(h:ps.Perm (List.range es.size)):(zhE es ps).Perm (es.toList.map (·.2)):=by unfold zhE;refine(h.map _).trans (List.Perm.of_eq ?_);apply List.ext_getElem?;intro i;by_cases c:i<es.size;simp[c,Array.getD];simp[c]
end
section
variable{prog:ϊ}{w:ό}{A:ϐ}{E:Ξ->Β->Prop}{s:Β}{a:Addr}{o:Obj}{es:Array (Int×Ξ)}{ep:Nat}{t:SetTable}
structure Got(prog:ϊ)(w:ό)(h0 h':Heap)(a:Addr)(vals:List Ξ)(I:Addr)(fp:List Addr)(St:Nat->Heap->Prop):Prop where
 wk:∀A:ϐ,A.handled=Ψ->Walks prog w A I fp [I] vals.length (YP vals) St
 st:St 0 h'
 old:∀b o,h0.get? b=Φ o->h'.get? b=Φ o
 new:h0.objs.size<=I
 lt:I<h'.objs.size
 fp:∀b∈fp,b=a\/(h0.objs.size<=b/\b<h'.objs.size)
def zmI(r:s.heap.get? a=Φ o)(C:o.ExactSet)(hd:o.data=.set es ep t)(u:t.fits es.size=Γ)(U:TOk (!byT w) t)(hz:es.size<scanBound)(q:∀(h':Heap)(d':Drawn)(I:Addr)(x:List Addr)(St:Nat->Heap->Prop)(c:List Ξ),c.Perm (es.toList.map (·.2))->Got prog w s.heap h' a c I x St->Q (.ref I) {s with heap:=h',drawn:=d'}):
  wpAny (model prog w) A (pyIter (.ref a)) Q E s:=by
 have N:s.TypeIs (.ref a) "set":=⟨_,r,C.1⟩;have G:=Η r;refine wpAny_pyIter_slot N F.slot_set_iter (ϔ F.slot_set_iter N zgX ?_ (F.args_set_iter_1 _));unfold Builtin.«frozenset.__iter__»;refine Θ (m:=Builtin.Frozenset.slot0 "__iter__" _) (Ω ?_);unfold Builtin.Frozenset.sizeOf;refine Θ (Θ (wpAny_setEntries_of r hd u (Ω ?_)));unfold setDrawn;refine Θ (Θ (wpAny_setState_of r hd u ?_));dsimp only;unfold setsByText;refine Θ (Θ (wpAny_askSetting (Ω (Ω ?_))));show wpAny _ _ (if(!byT w&&(!t.plain&&decide (es.size>1)))=Γ then _ else _) _ _ s;have mk:∀(k:Heap)(d':Drawn)(l:Ξ),(∀b o,s.heap.get? b=Φ o->k.get? b=Φ o)->s.heap.objs.size<=k.objs.size->
   (∀h',h'.objs.size=k.objs.size+1->(∀b o,k.get? b=Φ o->h'.get? b=Φ o)->SIt h' k.objs.size a l 0 es.size ep->∃x St c,c.Perm (es.toList.map (·.2))/\Got prog w s.heap h' a c k.objs.size x St)->
   wpAny (model prog w) A.in1 (do ret (<-newFields "set_iterator" [l,rawInt 0,.ref a,rawInt es.size,rawInt (<-setEpoch a)])) (λfin O=>∃v,fin=.done (.ret v)/\∃T id,O.TypeIs v T/\typeLookup (.type T) "__next__"=pure (Φ id)/\Q v O) E {s with heap:=k,drawn:=d'}:=by
  intro k d' l j Y J;refine Θ (wpAny_setEpoch_of (s:={s with heap:=k,drawn:=d'}) (j _ _ r) hd u ?_);refine Θ (ϖ (Ω ⟨_,rfl,"set_iterator",_,⟨_,Ζ _ rfl,rfl⟩,slot_sit_next.lookup,?_⟩));let⟨x,St,c,n,J⟩:=J (k.push {cls:=.type "set_iterator",data:=.fields #[l,rawInt 0,.ref a,rawInt es.size,rawInt ep]}) (ώ ..) (λb o e=>Λ _ e) (Ζ _ rfl);exact q _ d' _ x St c n J
 by_cases f:byT w=Γ;rw[if_neg (by rw[f];simp)];refine Θ (Ω ?_);refine mk s.heap s.drawn (rawInt 0) (λb o e=>e) (le_refl _) λh' d j h=>⟨[s.heap.objs.size,a],_,_,(zkY _ es).map _,⟨λA y=>zrG y (ne_of_lt G) f hd u,⟨h,j _ _ r⟩,j,le_refl _,by rw[d];exact ϗ _,λb f=>?_⟩⟩;simp![mem_cons,not_mem_nil,or_false]at f;rcases f with z|z;exact .inr ⟨le_of_eq z.symm,by rw[z,d];exact ϗ _⟩;exact .inl z;have f:byT w=Δ:=by simpa using f
 by_cases n:(!t.plain&&decide (es.size>1))=Γ;rw[if_pos (by rw[f,n];rfl)];refine Θ (ziV es.size (List.range es.size) (by simp) λB d' g=>?_);have L:B.length<=sizeLine:=by rw[g.length_eq,length_range];exact fits_of_scanBound hz
 unfold newTuple;refine Θ (ϖ ?_ (by show(List.map (λ(i:Nat)=>rawInt i) B).toArray.size<=sizeLine;simpa using L));have M:∀p∈B,p<es.size:=λp n=>mem_range.mp (g.mem_iff.mp n);refine mk (s.heap.push {cls:=.type "tuple",data:=.seq (B.map λ(i:Nat)=>rawInt i).toArray}) d' (.ref s.heap.objs.size) (λb o e=>Λ _ e) (by rw[ώ];lia) λh' d j h=>?_;have z1:(s.heap.push {cls:=.type "tuple",data:=.seq (B.map λ(i:Nat)=>rawInt i).toArray}).objs.size=s.heap.objs.size+1:=ώ ..;rw[z1]at h d⊢;refine⟨[s.heap.objs.size+1,a,s.heap.objs.size],_,_,zni es g,⟨λA y=>zrI y (ne_of_lt (ϣ G)) (ne_of_lt (ϗ _)) hd u M,⟨h,j _ _ (Λ _ r),j _ _ (Ζ _ rfl)⟩,λb o e=>j _ _ (Λ _ e),le_succ _,by rw[d];exact ϗ _,λb f=>?_⟩⟩;simp![mem_cons,not_mem_nil,or_false]at f;rcases f with z|z|z;exact .inr ⟨by rw[z];exact le_succ _,by rw[z,d];exact ϗ _⟩;exact .inl z;exact .inr ⟨le_of_eq z.symm,by rw[z,d];exact ϣ (ϗ _)⟩;have n:(!t.plain&&decide (es.size>1))=Δ:=by simpa using n
 rw[if_neg (by rw[n];simp)];refine Θ (Ω ?_);refine mk s.heap s.drawn (rawInt 0) (λb o e=>e) (le_refl _) λh' d j h=>⟨[s.heap.objs.size,a],_,_,List.Perm.refl _,⟨λA y=>zrH y (ne_of_lt G) f hd u U n,⟨zero_le _,h,j _ _ r⟩,j,le_refl _,by rw[d];exact ϗ _,λb f=>?_⟩⟩;simp![mem_cons,not_mem_nil,or_false]at f;rcases f with z|z;exact .inr ⟨le_of_eq z.symm,by rw[z,d];exact ϗ _⟩;exact .inl z
def zmK(d:s.TypeIs (.ref a) "set")(h:Q Δ s):wpAny (model prog w) A (Builtin.List.listLengthHint (.ref a)) Q E s:=by
 unfold Builtin.List.listLengthHint;refine Θ (wpAny_specialOf d F.slot_set_len.lookup ?_);generalize hid:("set.__len__":String)=e
 wp_delta
 rw[show splitId e=Φ ("set","__len__") from by subst hid;decide +kernel];subst hid;refine Θ (wpAny_isInstance (T:="set") (b:=Γ) d (by rw[isSubtype_type];kernel_rfl) ?_);refine wpAny_ite_split (λc=>absurd c (by decide)) (λ_=>?_);refine wpAny_ite_split (λ_=>?_) (λc=>absurd (by decide +kernel) c);refine Θ (wpAny_typeOf d ?_);exact Ω h
def zjh(C:A.handled=Ψ)(x:s.heap.get? a=Φ o)(k:o.ExactSet)(hd:o.data=.set es ep t)(Q:t.fits es.size=Γ)(U:TOk (!byT w) t)(hz:es.size<scanBound)(S)(n:S≠a)(res)(p)(J:s.heap.get? S=Φ {cls:=.type "list",data:=.seq #[] p})(Y:∀h' d' tk d c,(∀b o,b≠S->s.heap.get? b=Φ o->h'.get? b=Φ o)->h'.get? S=Φ {cls:=.type "list",dict:=Ψ,data:=.seq d c,slots:=#[]}->d.toList.Perm (es.toList.map (·.2))->R (.ok (.ret res)) {s with heap:=h',drawn:=d',toks:=tk}):
  wpAny (model prog w) A.in1 (Builtin.List.listExtendWith (.ref S) (.ref a) res)
   (λfin s'=>match fin with|.done f=>R (.ok f) s'|.again c'=>c'.quiet=Γ/\codeAny (model prog w) A c' R s') (λe s'=>R (.error e) s') s:=by
 have y:=Η J;unfold Builtin.List.listExtendWith;refine Θ (wpAny_typeOf (T:="set") ⟨_,x,k.1⟩ ?_);rw[if_neg (by simp[Builtin.List.listSameRef,n])];refine Θ (zmI x k hd Q U hz λu d' I fp St g L G=>?_);have q:=G.old _ _ J;refine Θ (ϝ (zmK (s:={s with heap:=u,drawn:=d'}) ⟨_,G.old _ _ x,k.1⟩ ?_));rw[if_pos (by decide +kernel)];refine Θ (wpAny_rule (Θ ?_));show wpAny _ _ (updateSeq S (·.push .none)>>=λ_=>updateSeq S (·.pop)) _ _ _;refine Θ (wpAny_updateSeq (s:={s with heap:=u,drawn:=d'}) q rfl ?_);have h:=Heap.get?_update_self (Obj.mapSeq (·.push Ξ.none)) q rfl;refine wpAny_updateSeq (hz:=by seq_fits) h rfl ?_;have l:=Heap.get?_update_self (Obj.mapSeq (·.pop)) h rfl;have M:∀b o,b≠S->u.get? b=Φ o->((u.update S (Obj.mapSeq (·.push Ξ.none))).update S (Obj.mapSeq (·.pop))).get? b=Φ o:=λb o m e=>(Heap.get?_update_other _ _ (Ne.symm m)).trans ((Heap.get?_update_other _ _ (Ne.symm m)).trans e);have r:S∉fp:=λv=>by rcases G.fp S v with z|z;exact n z;exact Nat.not_lt.mpr z.1 y
 have hv:g.length<=sizeLine:=by rw[L.length_eq,length_map,length_toList];exact fits_of_scanBound hz
 refine Ω ⟨plainId_quiet PySem.F.plain_extend_loop _,codeAny_extend_loopS (G.wk A.in1 C).toS hv S r res g.length 0 _ #[] _ rfl (zero_le _) ?_ l (ItemsOf.nil _) λs' d c N B j=>?_⟩;exact(G.wk A.in1 C).frame 0 _ _ G.st λb m o e=>M b o (λz=>r (z▸m)) e;rw[Moved.eq_with N];refine Y s'.heap d' s'.toks d c (λb o m e=>N.heap b o (λv=>?_) (M b o m (G.old _ _ e))) B ?_;simp![mem_cons,not_mem_nil,or_false]at v;rcases v with z|z;exact m z;exact Nat.not_lt.mpr (z▸G.new) (Η e);have:d.toList=g:=by refine List.ext_getElem? λi=>?_;by_cases hi:i<d.size;have O:d[i]?=Φ d[i]:=Array.getElem?_eq_getElem hi;have e2:=j.2 i _ O;rw[Array.getElem?_toList,O];exact e2.symm;rw[List.getElem?_eq_none (by rw[length_toList];lia),List.getElem?_eq_none (by have:=j.1;lia)]
 rw[this];exact L
def zho(z:A.handled=Ψ)(r:s.heap.get? a=Φ o)(n:o.ExactSet)(hd:o.data=.set es ep t)(B:t.fits es.size=Γ)(C:TOk (!byT w) t)(hz:es.size<scanBound)(h:∀(h':Heap)(d':Drawn)(tk:Nat)(i:List Ξ),(∀b o,s.heap.get? b=Φ o->h'.get? b=Φ o)->s.heap.objs.size<h'.objs.size->i.Perm (es.toList.map (·.2))->R i {s with heap:=h',drawn:=d',toks:=tk}):
  wpAny (model prog w) A (collect (.ref a)) R E s:=by
 have G:a<s.heap.objs.size:=Η r;unfold collect;refine Θ (wpAny_runValue (codeAny_builtin PySem.F.entry_proto_collect ?_));rw[ϐ.under_plainId PySem.F.plain_proto_collect _];show wpAny _ A.in1 (newList []>>=λl=>again (.builtin "list.__iadd__" ⟨[l,.ref a],[]⟩)) _ _ s;refine Θ (ϖ ?_);refine Ω ⟨plainId_quiet PySem.F.plain_list_iadd _,codeAny_builtin PySem.F.entry_list_iadd ?_⟩;rw[ϐ.under_plainId PySem.F.plain_list_iadd _];have j:(s.heap.push {cls:=.type "list",data:=.seq ([]:List Ξ).toArray}).get? s.heap.objs.size=Φ {cls:=.type "list",data:=.seq #[]}:=Ζ _ rfl;show wpAny _ A.in1 (Builtin.List.listExtendWith (.ref s.heap.objs.size) (.ref a) (.ref s.heap.objs.size)) _ _ _;have key:=zjh (prog:=prog) (w:=w) (A:=A) (s:={s with heap:=s.heap.push {cls:=.type "list",data:=.seq ([]:List Ξ).toArray}})
  (R:=λ(q:Result) (p:Β)=>∃(h':Heap) (d':Drawn) (tk:Nat) (c:Array Ξ) (k:Nat),q=.ok (.ret (.ref s.heap.objs.size))/\p={s with heap:=h',drawn:=d',toks:=tk}/\
   (∀b o,s.heap.get? b=Φ o->h'.get? b=Φ o)/\h'.get? s.heap.objs.size=Φ {cls:=.type "list",dict:=Ψ,data:=.seq c k,slots:=#[]}/\c.toList.Perm (es.toList.map (·.2)))
  z (Λ _ r) n hd B C hz s.heap.objs.size (ne_of_gt G) (.ref s.heap.objs.size) 0 j
  (λh' d' tk c k m g d=>⟨h',d',tk,c,k,rfl,rfl,λb o e=>m b o (ne_of_lt (Η e)) (Λ _ e),g,d⟩)
 refine ύ key (λfin p x=>?_) λe p x=>?_;cases fin with| done f=>let⟨h',d',tk,c,k,e,rfl,m,g,d⟩:=x;cases e;show wpAny _ A (load s.heap.objs.size>>=_) _ _ _;exact Θ (wpAny_load g (Ω (h h' d' tk _ m (Η g) d)))| again u=>refine⟨x.1,Ϟ x.2 λq v y=>?_⟩;let⟨h',d',tk,c,k,rfl,rfl,m,g,d⟩:=y;show wpAny _ A (load s.heap.objs.size>>=_) _ _ _;exact Θ (wpAny_load g (Ω (h h' d' tk _ m (Η g) d)))
 let⟨_,_,_,_,_,I,_⟩:=x;cases I
end
end R
namespace R
open PySem PySem.Spec PyProof.Rows L2
def zfQ(x):∀l:List Int,(insZ x l).Perm (x::l)
 | []=>List.Perm.refl _| y::l=>by unfold insZ;split;exact List.Perm.refl _;exact((zfQ x l).cons y).trans (List.Perm.swap ..)
def zeU(x):∀{l:List Int},l.Pairwise (·<=·)->(insZ x l).Pairwise (·<=·)
 | [],_=>by simp[insZ]| y::l,h=>by have a:=ϥ.mp h;unfold insZ;split;rename_i c;exact ϥ.mpr ⟨λz b=>by rcases mem_cons.mp b with e|e;rw[e];exact c;exact Int.le_trans c (a.1 z e),h⟩;rename_i c;refine ϥ.mpr ⟨λz b=>?_,zeU x a.2⟩;rcases mem_cons.mp ((zfQ x l).mem_iff.mp b) with e|e;rw[e];lia;exact a.1 z e
def zbF:∀l:List Int,(zey l).Perm l
 | []=>List.Perm.refl _|x::l=>(zfQ x _).trans ((zbF l).cons x)
def zdk:∀l:List Int,(zey l).Pairwise (·<=·)
 | []=>Pairwise.nil|x::l=>zeU x (zdk l)
def zeM:∀{a b:List Int},a.Perm b->a.Pairwise (·<=·)->b.Pairwise (·<=·)->a=b
 | [],b,p,_,_=>(List.nil_perm.mp p).symm|x::a,[],p,_,_=>absurd (List.perm_nil.mp p) (by simp)| x::a,y::b,p,f,g=>by
  have c:=ϥ.mp f;have d:=ϥ.mp g;have e1:y<=x:=by rcases mem_cons.mp (p.mem_iff.mp Μ) with e|e;exact Int.le_of_eq e.symm;exact d.1 x e
  have e2:x<=y:=by rcases mem_cons.mp (p.mem_iff.mpr Μ) with e|e;exact Int.le_of_eq e.symm;exact c.1 y e
  cases Int.le_antisymm e1 e2;rw[zeM (List.Perm.cons_inv p) c.2 d.2]
def zh0(ns):(R.dedup ns).Nodup:=by
 unfold R.dedup;suffices ∀(l d:List Int),d.Nodup->(l.foldl (λd x=>if d.contains x then d else d++[x]) d).Nodup from this ns [] List.nodup_nil
 intro l;induction l with|nil=>intro d h;exact h| cons x l g=>intro d h;refine g _ ?_;show(if d.contains x=Γ then d else d++[x]).Nodup;split;exact h;rename_i c;refine nodup_append.mpr ⟨h,by simp,λa i b f e=>?_⟩;simp![mem_singleton]at f;subst f;subst e;exact c (by simpa using i)
def zcw:∀{a:List Int}{b:List Int},a.Nodup->(∀x∈a,x∈b)->b.length=a.length->a.Perm b
 | [],b,_,_,h=>by rw[List.length_eq_zero_iff.mp h]| x::a,b,i,d,h=>by have c:=nodup_cons.mp i;have f:=d x Μ;have j:=List.perm_cons_erase f;refine List.Perm.trans ((zcw (b:=b.erase x) c.2 (λy g=>?_) ?_).cons x) j.symm;exact(List.mem_erase_of_ne (λe:y=x=>c.1 (e▸g))).mpr (d y (Κ _ g));rw[List.length_erase_of_mem f,h];simp
abbrev SetO(prog:ϊ)(w:ό)(o:Obj)(ns:List Int):Prop:=∃a c t b,o.ExactSet/\o.data=.set a c t/\t.fits a.size=Γ/\TOk (!byT w) t/\a.size<scanBound/\IntsAre (a.toList.map (·.2)) b/\b.Perm ns
def zlN:∀{l:List (Int×Ξ)},ElemsOf (intKind prog w) l->∃a,IntsAre (l.map (·.2)) a
 | [],_=>⟨[],.nil⟩| e::l,h=>by let⟨a,b⟩:=zlN (l:=l) λx c=>h x (Κ _ c);let⟨⟨k,d,_⟩,_⟩:=h e Μ;let⟨t,f⟩:=Ξ.isInt_shape d;exact⟨k::a,by rw[Ν,f];exact .cons _ _ b⟩
def zlM:∀{us vs:List Ξ}{ns:List Int},us.Perm vs->IntsAre vs ns->∃a,IntsAre us a/\a.Perm ns:=by
 intro us vs ns p;induction p generalizing ns with
 |nil=>intro h;exact⟨ns,h,List.Perm.refl _⟩| cons x p f=>intro h;cases h with| cons _ _ h=>let⟨a,b,c⟩:=f h;exact⟨_::a,.cons _ _ b,c.cons _⟩
 |swap x y l=>intro h;cases h with| cons _ _ h=>cases h with|cons _ _ h=>exact⟨_,.cons _ _ (.cons _ _ h),List.Perm.swap ..⟩
 |trans p q d e=>intro h;let⟨a,b,c⟩:=e h;let⟨g,i,j⟩:=d b;exact⟨g,i,j.trans c⟩
def ziF:∀{l:List (Int×Ξ)}{b:List Int},IntsAre (l.map (·.2)) b->∀k,(∃e∈l,(intKind prog w).is k e.2=Γ)->k∈b
 | [],_,h,k,⟨e,a,_⟩=>by simp at a| e::l,_,h,k,⟨f,a,c⟩=>by rw[Ν]at h;generalize g:e.2=v at h;cases h with| cons _ _ h=>rcases mem_cons.mp a with z|z;let⟨t,d⟩:=Ξ.isInt_shape c;rw[z,g]at d;cases d;exact Μ;exact Κ _ (ziF h k ⟨f,z,c⟩)
def SetO.of(x:SetD prog w h a S ns.length)(c:ns.Nodup)(d:∀k∈ns,S k=Γ):∃o,h.get? a=Φ o/\SetO prog w o ns:=by let⟨o,e,f,t,g,i,j,l,m,n,p,q,r⟩:=x;let⟨s,b⟩:=zlN l;refine⟨o,g,e,f,t,s,i,j,p,r,n,b,(zcw c (λk u=>ziF b k ((m k).mp (d k u))) ?_).symm⟩;rw[<-b.length,length_map,length_toList,q]
section
variable[Mks]{X:Cx}
def zq2(I:Inv X c e H s)(k:∀b u,s.heap.get? b=Φ u->h'.get? b=Φ u)(d:s.heap.objs.size<=a)(new:ObjOk X.prog X.w (upd H a o) h' a o):
 Inv X c e (upd H a o) {s with heap:=h',drawn:=d',toks:=t'}:=I.call' rfl (Un.laid k d (I.hok.fresh d)) (I.hok.laid k d new) I.bare λb (f:b∈([]:List Addr))=>by cases f
def zpH(m:X.calm=Γ):zbn X (.type "set") (λxs H Q=>∃(a:Addr) (ns:List Int),xs=[.ref a]/\SqL X.K H a (ns.map V.int)/\ns.length<4000/\∀p,H p=Ψ->∀o,SetO X.prog X.w o (R.dedup ns)->Q (.ref p) (upd H p (.frz o (.own 0)))):=by
 intro d s B H xs C Q I r h;let⟨a,ns,rfl,n,E,q⟩:=h;let⟨u,rfl,t⟩:=r.one;cases(show u=Ξ.ref a from t);have fresh:=I.hok.fresh (le_refl s.heap.objs.size);have v:X.A.handled=Ψ:=I.ok.hd m;let⟨c,f,w,x⟩:=I.list n;have i:c.toArray.size=ns.length:=by rw[size_toArray,<-f.length,length_map]
 refine zkl v w.isList (zdf f) (by rw[i];unfold scanBound;lia) λg G j y=>?_;rw[i,<-zcY]at j;let⟨o,l,z⟩:=SetO.of j (zh0 ns) (λk A=>List.any_eq_true.mpr ⟨k,A,by simp⟩);exact⟨.ref s.heap.objs.size,_,I.laid (o:=.frz o (.own 0)) (λb o e=>y b o (Η e) e) (le_refl _) ⟨l,_,l⟩,rfl,q _ fresh o z⟩
def zje(B:X.calm=Γ):zbn X (.builtin "sorted") (λxs H Q=>∃(a:Addr) (o:Obj) (ns:List Int),xs=[.ref a]/\H a=Φ (.frz o (.own 0))/\SetO X.prog X.w o ns/\ns.length<64/\∀p,H p=Ψ->Q (.ref p) (upd H p (.lst ((zey ns).map V.int)))):=by
 intro x s σ H xs us Q I r h;let⟨a,o,ns,rfl,C,⟨es,ep,t,ms,E,G,J,L,M,N,y⟩,l,q⟩:=h;let⟨u,rfl,O⟩:=r.one;cases(show u=Ξ.ref a from O);have T:s.heap.get? a=Φ o:=(show ObjOk X.prog X.w H s.heap a (.frz o (.own 0)) from I.hok a _ C).1;have U:X.A.handled=Ψ:=I.ok.hd B;refine Calls.call_function_entry kind_sorted plain_sorted entry_sorted (args_sorted1 _) ?_;unfold Builtin.«sorted»;refine Θ (m:=checkCount "sorted" 1 1 _) (Ω ?_);refine Θ (zho U T E G J L M λk d' Y d kp n hp=>?_);let⟨ks,g,z⟩:=zlM hp N;have i:d.length<64:=by rw[g.length,(z.trans y).length_eq];exact l
 refine Θ (wpAny_newList ?_ (by rw[Υ];lia));have f:(k.push (seqObj "list" d.toArray 0)).get? k.objs.size=Φ (seqObj "list" d.toArray 0):=Ζ _ rfl;refine Θ (ϝ (ϔ slot_list_sort ⟨_,f,rfl⟩ entry_list_sort (list_sort_tree f g i λout v a1 a2 a3=>⟨_,rfl,?_⟩) (args_list_sort _)));have j:s.heap.objs.size<=k.objs.size:=le_of_lt n;have en:v=zey ns:=zeM (a2.trans (z.trans (y.trans (zbF ns).symm))) a3 (zdk ns);subst en;let⟨c,w⟩:=sortedHeap_at (out:=out) f;refine Ω ⟨_,rfl,.ref k.objs.size,_,zq2 (s:=s) (d':=d') (t':=Y) (o:=.lst ((zey ns).map V.int)) I (λb u e=>?_) j ⟨?_,out.toList,c,zdI a1,?_⟩,rfl,q _ (I.hok.fresh j)⟩;have e1:=kp b u e;have A:=Η e1;rw[sortedHeap_old (ne_of_lt A) (Nat.lt_of_lt_of_eq (ϣ A) (ώ ..).symm)];exact Λ _ e1;rw[length_map,(zbF ns).length_eq,Υ];lia;exact w
variable{T:Tab}{cf:CF}{k:Nat}{N:List Str}{sc:Scope}{pos p p2 pos':Pos}
def zmm:bootBuiltins "sorted"=Φ (.builtin "sorted"):=by rfl
def zpJ(G:Gd T cf k N sc X)(r:Gl X "sorted"/\X.mg "sorted"=Ψ)(s:Gl X "set"/\X.mg "set"=Ψ)(A:PE X e (tE X.K cf B))(f:zao e=Γ):
  PE X (.Call (.Name "sorted" p) [.Call (.Name "set" p2) [e] [] pos'] [] pos) (tE X.K cf (.sset B)):=by
 have j:=zbp (p:=p2) (pos:=pos') (zpH G.calm) s.1 s.2 zpa (zaV A f) (by decide) (by decide) (zan f [] X.env);refine PE.imp (zcU (zje G.calm) r.1 r.2 zmm (zaV j rfl) (by decide) (by decide) rfl) λσ H Qv z=>?_;let⟨δ,ι,S,Q,C,E,w,q⟩:=z;change W (Out.bind _ _) _ at w;simp![zab] at w;refine tE.run C E w λd v g t I J L h M O=>?_;let⟨m,b,n⟩:=zaw O;unfold lstI at b;split at n;rename_i c;cases d with
 |ref l=>
  let⟨a,U,rfl⟩:=M;dsimp only at b;cases e1:I.get l with
  |none=>rw[e1]at b;exact nS b
  |some Y=>rw[e1]at b;cases Y with| lst ds=>have b:zaD ds=Φ m:=b;let⟨a',u,zs,ha,x⟩:=h.obj _ _ e1;rw[U]at u;cases u;rw[zfP b]at x;have:=x.ints_eq;subst this;have hd:=zg0 m;let⟨c2,w3⟩:=zd9 n;refine⟨a,m,rfl,SqL.of ha,by lia,λy i o so=>⟨y,o,_,rfl,zaf,so,by lia,λl hl=>?_⟩⟩;have e1:Ext g t g (upd t y (.frz o (.own 0))):=Ext.new i _;exact q _ _ (Lf.up (J.trans e1) (Lf.lst (h.new i _) hl (RVs.ints _) w3))|_=>exact nS b
 |_=>exact nS b
 exact n.elim
end
section
variable[Mks]{X:Cx}
variable{T:Tab}{cf:CF}{k:Nat}{N:List Str}{sc:Scope}{pos p:Pos}
def zt1:bootBuiltins "min"=Φ (.builtin "min"):=by rfl
end
end R
namespace R
open PySem PySem.W PyProof.Rows
section
variable{n:Nat}{r:Nat->Int}{cmp:Nat->Nat->(Bool->Β->Prop)->Β->Prop}{s:Β}
@[reducible]def GP(n:Nat)(p:Array Nat):Prop:=p.Perm (List.range n).toArray
abbrev kAt(r:Nat->Int)(p:Array Nat)(i:Nat):Int:=r (p.getD i 0)
abbrev AscTo(r:Nat->Int)(p:Array Nat)(k:Nat):Prop:=∀i j,i<j->j<k->kAt r p i<kAt r p j
abbrev DescTo(r:Nat->Int)(p:Array Nat)(k:Nat):Prop:=∀i j,i<j->j<k->kAt r p j<kAt r p i
def GP.size(h:GP n p):p.size=n:=by have:=h.size_eq;simpa using this
def GP.list(h:GP n p):p.toList.Perm (List.range n):=by have:=Array.perm_iff_toList_perm.mp h;simpa using this
def zbs(p:Array Nat)(a):p.getD i 0=p.toList[i]'(by simpa using a):=by simp[Array.getD,a]
def GP.lt(h:GP n p)(a:i<n):p.getD i 0<n:=by have b:=h.size;rw[zbs p (by lia)];exact mem_range.mp (h.list.mem_iff.mp (List.getElem_mem _))
def GP.inj(h:GP n p)(c:∀i j,i<n->j<n->r i=r j->i=j)(d:i<n)(f:j<n)(e:kAt r p i=kAt r p j):i=j:=by have a:=c _ _ (h.lt d) (h.lt f) e;have k:=h.size;rw[zbs p (by lia),zbs p (by lia)]at a;have g:p.toList.Nodup:=h.list.nodup_iff.mpr List.nodup_range;have b:=List.pairwise_iff_getElem.mp g;rcases Nat.lt_trichotomy i j with z|z|z;exact absurd a (b i j _ _ z);exact z;exact absurd a.symm (b j i _ _ z)
def GP.tri(h:GP n p)(a:∀i j,i<n->j<n->r i=r j->i=j)(b:i<n)(d:j<n)(f:i≠j)(c:¬kAt r p i<kAt r p j):kAt r p j<kAt r p i:=by have:kAt r p i≠kAt r p j:=λe=>f (h.inj a b d e);lia
def AscTo.snoc(h:AscTo r p k)(d:1<=k)(c:kAt r p (k-1)<kAt r p k):AscTo r p (k+1):=by
 intro i j a f;by_cases e:j<k;exact h i j a e;have:j=k:=by lia
 subst this;by_cases b:i=j-1;subst b;exact c;have:=h i (j-1) (by lia) (by lia);lia
def DescTo.snoc(h:DescTo r p k)(d:1<=k)(c:kAt r p k<kAt r p (k-1)):DescTo r p (k+1):=by
 intro i j a f;by_cases e:j<k;exact h i j a e;have:j=k:=by lia
 subst this;by_cases b:i=j-1;subst b;exact c;have:=h i (j-1) (by lia) (by lia);lia
variable(hr:∀i j,i<n->j<n->r i=r j->i=j)(hc:∀i j (C:Bool->Β->Prop),i<n->j<n->C (decide (r i<r j)) s->cmp i j C s)
include hr hc
def zmr{p:Array Nat}(g:GP n p){Q:Nat->Β->Prop}:∀(f a:Nat),1<=a->a+f<=n->AscTo r p a->
  (∀m,a<=m->m<=a+f->AscTo r p m->(m=a+f\/kAt r p m<kAt r p (m-1))->Q m s)->(kas_asc p f a).kasWp cmp Q s
 |0,a,_,_,h,q=>q a (le_refl _) (le_refl _) h (.inl rfl)| f+1,a,b,l,h,q=>by refine hc _ _ _ (g.lt (by lia)) (g.lt (by lia)) ?_;by_cases c:kAt r p a<kAt r p (a-1);have e:decide (r (p.getD a 0)<r (p.getD (a-1) 0))=Γ:=decide_eq_true c;show(if decide (r (p.getD a 0)<r (p.getD (a-1) 0))=Γ then KasT.ret a else kas_asc p f (a+1)).kasWp cmp Q s;rw[if_pos e];exact q a (le_refl _) (by lia) h (.inr c);have e:¬decide (r (p.getD a 0)<r (p.getD (a-1) 0))=Γ:=λz=>c (of_decide_eq_true z);show(if decide (r (p.getD a 0)<r (p.getD (a-1) 0))=Γ then KasT.ret a else kas_asc p f (a+1)).kasWp cmp Q s;rw[if_neg e];refine zmr g f (a+1) (by lia) (by lia) (h.snoc b (g.tri hr (by lia) (by lia) (by lia) c)) λm o t d k=>q m (by lia) (by lia) d ?_;rcases k with z|z;exact .inl (by lia);exact .inr z
def zl5{p:Array Nat}(g:GP n p){Q:Array Nat×Nat×Nat->Β->Prop}:∀(f a:Nat),1<=a->a+f<=n->DescTo r p a->
  (∀m,a<=m->m<=a+f->DescTo r p m->Q (p,m,0) s)->(kas_desc f p a 0).kasWp cmp Q s
 |0,a,_,_,h,q=>q a (le_refl _) (le_refl _) h| f+1,a,b,o,h,q=>by refine hc _ _ _ (g.lt (by lia)) (g.lt (by lia)) ?_;by_cases c:kAt r p a<kAt r p (a-1);have e:decide (r (p.getD a 0)<r (p.getD (a-1) 0))=Γ:=decide_eq_true c;rw[e];show(kas_desc f p (a+1) 0).kasWp cmp Q s;exact zl5 g f (a+1) (by lia) (by lia) (h.snoc b c) λm t u d=>q m (by lia) (by lia) d;have e:decide (r (p.getD a 0)<r (p.getD (a-1) 0))=Δ:=decide_eq_false c;rw[e];refine hc _ _ _ (g.lt (by lia)) (g.lt (by lia)) ?_;have k:=g.tri hr (by lia) (by lia) (by lia) c;have l:decide (r (p.getD (a-1) 0)<r (p.getD a 0))=Γ:=decide_eq_true k;rw[l];exact q a (le_refl _) (by lia) h
omit hr hc in
def GP.rev(g:GP n p)(i j):GP n (kas_rev p i j):=(mirror_perm _ _ _ _).trans g
omit hr hc in
def zlA(g:GP n p)(f:m<=n)(a:i<m):kAt r (kas_rev p 0 m) i=kAt r p (m-1-i):=by
 have h:=g.size;have e:=getElem?_mirror_all (xs:=p) (i:=0) (j:=m) (by lia) i;unfold kAt kas_rev;congr 1;have b:(mirror p 0 m ((m-0)/2)).getD i 0=((mirror p 0 m ((m-0)/2))[i]?).getD 0:=by simp[Array.getD_eq_getD_getElem?]
 have c:p.getD (m-1-i) 0=(p[m-1-i]?).getD 0:=by simp[Array.getD_eq_getD_getElem?]
 rw[b,c];congr 1;rw[e];have d:0<=i/\i<m:=⟨zero_le _,a⟩;simp[d,a]
 try (congr 1;lia)
omit hr hc in
def DescTo.rev(g:GP n p)(a:m<=n)(h:DescTo r p m):AscTo r (kas_rev p 0 m) m:=by intro i j b c;rw[zlA g a (by omega),zlA g a c];exact h _ _ (by omega) (by omega)
def zn5{p:Array Nat}(g:GP n p)(x:1<=n){Q:Nat×Array Nat->Β->Prop}(q:∀m b,1<=m->m<=n->GP n b->AscTo r b m->Q (m,b) s):(kas_count n p).kasWp cmp Q s:=by
 unfold kas_count;rw[KasT.kasWp_bind];refine zmr hr hc g (n-1) 1 (le_refl _) (by lia) (λi j _ _=>by lia) λm f y a l=>?_;by_cases e:m=n;subst e;simp![beq_self_eq_true,if_true];exact q m p f (le_refl _) g a;rw[if_neg (by simpa using e)];have c:=l.resolve_left (by lia);by_cases h:m>1;have:=a (m-1-1) (m-1) (by lia) (by lia);rw[if_pos h];refine hc _ _ _ (g.lt (by lia)) (g.lt (by lia)) ?_;have o:kAt r p 0<kAt r p (m-1):=a 0 (m-1) (by lia) (by lia);have d:decide (r (p.getD 0 0)<r (p.getD (m-1) 0))=Γ:=decide_eq_true o;rw[d];exact q m p f (by lia) g a;rw[if_neg h];have d:m=1:=by lia
 subst d;unfold kas_descPart;rw[KasT.kasWp_bind];have t:DescTo r p (1+1):=by
  intro i j u z;have:i=0/\j=1:=by lia
  let⟨rfl,rfl⟩:=this;exact c
 refine zl5 hr hc g (n-(1+1)) (1+1) (by lia) (by lia) t λk A B v=>?_;show(kas_tail3 k n p).kasWp cmp Q s;unfold kas_tail3;rw[KasT.kasWp_bind];refine zmr hr hc (g.rev 0 k) (n-k) k (by lia) (by lia) (v.rev g (by lia)) λj E G w _=>?_;exact q j _ (by lia) (by lia) (g.rev 0 k) w
def zfA{p:Array Nat}(g:GP n p){k:Nat}(h:k<n)(m:AscTo r p k){Q:Nat->Β->Prop}:∀(f l t:Nat),l<=t->t<=k->t-l<=f->(∀i,i<l->kAt r p i<kAt r p k)->(∀i,t<=i->i<k->kAt r p k<kAt r p i)->
  (∀l,l<=k->(∀i,i<l->kAt r p i<kAt r p k)->(∀i,l<=i->i<k->kAt r p k<kAt r p i)->Q l s)->(kas_place p k f l t).kasWp cmp Q s
 |0,l,t,w,v,x,a,b,q=>q l (by lia) a λi o d=>b i (by lia) d| f+1,l,t,w,v,x,a,b,q=>by unfold kas_place;by_cases e:l≥t;rw[if_pos e];exact q l (by lia) a λi o d=>b i (by lia) d;rw[if_neg e];refine hc _ _ _ (g.lt h) (g.lt (by lia)) ?_;by_cases c:kAt r p k<kAt r p ((l+t)/2);have u:decide (r (p.getD k 0)<r (p.getD ((l+t)/2) 0))=Γ:=decide_eq_true c;rw[u];refine zfA g h m f l ((l+t)/2) (by lia) (by lia) (by lia) a (λi o d=>?_) q;by_cases z:i=(l+t)/2;rw[z];exact c;have:=m ((l+t)/2) i (by lia) d;lia;have u:decide (r (p.getD k 0)<r (p.getD ((l+t)/2) 0))=Δ:=decide_eq_false c;rw[u];have y:=g.tri hr h (by lia) (by lia) c;refine zfA g h m f ((l+t)/2+1) t (by lia) v (by lia) (λi o=>?_) b q;by_cases z:i=(l+t)/2;rw[z];exact y;have:=m i ((l+t)/2) (by lia) (by lia);lia
omit hr hc in
def zeR(g:GP n p)(c:k<n)(d:l<=k)(i):kAt r (bubble p k (k-l)) i=if i=l then kAt r p k else if l<i/\i<=k then kAt r p (i-1) else kAt r p i:=by
 have f:=g.size;have e:=getElem?_bubble (xs:=p) (src:=k) (by lia) (k-l) (by lia) i;have a:∀(q:Array Nat)(j:Nat),q.getD j 0=(q[j]?).getD 0:=λq j=>by simp[Array.getD_eq_getD_getElem?]
 unfold kAt;rw[a,e];have b:k-(k-l)=l:=by lia
 rw[b];split;rw[a];split;rw[a];rw[a]
omit hr hc in
def zjR(g:GP n p)(e:k<n)(f:l<=k)(c:AscTo r p k)(a:∀i,i<l->kAt r p i<kAt r p k)(b:∀i,l<=i->i<k->kAt r p k<kAt r p i):AscTo r (bubble p k (k-l)) (k+1):=by intro i j d t;rw[zeR g e f,zeR g e f];by_cases h:i=l;rw[if_pos h,if_neg (by omega),if_pos (by omega)];exact b _ (by omega) (by omega);rw[if_neg h];by_cases m:l<i/\i<=k;rw[if_pos m,if_neg (by omega),if_pos (by omega)];exact c _ _ (by omega) (by omega);rw[if_neg m];by_cases o:j=l;rw[if_pos o];exact a _ (by omega);rw[if_neg o];by_cases q:l<j/\j<=k;rw[if_pos q];by_cases z:i=j-1;omega;exact c _ _ (by omega) (by omega);rw[if_neg q];exact c _ _ d (by omega)
def zo9{Q:Array Nat->Β->Prop}:∀(f k:Nat)(p:Array Nat),k+f=n->1<=k->GP n p->AscTo r p k->(∀b,GP n b->AscTo r b n->Q b s)->(kas_bin f p k).kasWp cmp Q s
 |0,k,p,e,_,g,a,q=>q p g (by rw[show n=k by lia];exact a)| f+1,k,p,e,t,g,a,q=>by unfold kas_bin;rw[KasT.kasWp_bind];refine zfA hr hc g (by lia) a k 0 k (by lia) (le_refl _) (by lia) (λi c=>by lia) (λi c d=>by lia) λl h m o=>?_;exact zo9 f (k+1) _ (by lia) (by lia) ((bubble_perm _ _ _).trans g) (zjR g (by lia) h a m o) q
def zpB(c:1<=n){Q:Array Nat->Β->Prop}(q:∀p,GP n p->AscTo r p n->Q p s):(kas_sort n).kasWp cmp Q s:=by
 unfold kas_sort;rw[KasT.kasWp_bind];refine zn5 hr hc (Array.Perm.refl _) c λm b d f g a=>?_;show(if m<n then kas_bin (n-max m 1) b (max m 1) else KasT.ret b).kasWp cmp Q s;have em:max m 1=m:=by lia
 rw[em];by_cases e:m<n;rw[if_pos e];exact zo9 hr hc (n-m) m b (by lia) d g a q;rw[if_neg e];exact q b g (by rw[show n=m by lia];exact a)
end
end R
namespace R
open PySem PySem.Spec PyProof.Rows L2
def zlk:∀(as bs:List Int),lexZ as bs=HT.lexLt as bs
 | [],[]=>by simp[lexZ,HT.lexLt]| [],_::_=>by simp[lexZ,HT.lexLt]|_::_,[]=>by simp[lexZ,HT.lexLt]|a::as,b::bs=>by simp[lexZ,HT.lexLt,zlk as bs]
section
variable{prog:ϊ}{w:ό}{A:ϐ}{E:Ξ->Β->Prop}{s:Β}
def zj7(x:IsTupleKey (zar prog w) h (ks.map Sum.inl) b):∃items,IsTup h b items/\IntsAre items.toList ks:=by
 let⟨o,items,n,d,e,f,g⟩:=x;refine⟨items,⟨o,d,e,n,f⟩,?_⟩;have:∀{l:List Int}{a:List Ξ},ItemsAre (zar prog w) (l.map Sum.inl) a->IntsAre a l:=by intro l;induction l with|nil=>intro a h;cases h;exact .nil| cons x l j=>intro a h;cases h with| @cons _ v _ a k m=>rcases zay (show zgK (Sum.inl x) v=Γ from k) with⟨i,t,e3,c⟩|⟨y,t,e3,c⟩;cases e3;subst c;exact .cons _ _ (j m);cases e3
 exact this g
def zk3{b:Type}{xs:List b}{p:List Nat}(d)(c:p.Perm (List.range xs.length)):(p.map λi=>xs.getD i d).Perm xs:=by
 have a:=c.map λi=>xs.getD i d;have e:(List.range xs.length).map (λi=>xs.getD i d)=xs:=by apply List.ext_getElem;simp;intro i g f;simp[f]
 rw[e]at a;exact a
end
section
variable[Mks]{X:Cx}{T:Tab}{cf:CF}{k:Nat}{N:List Str}{sc:Scope}{pos p:Pos}
def zmO:PE X (.Dict [] [] pos) (tE X.K cf .dnew3):=by refine PE.imp zns λc H d z=>?_;let⟨e,ι,S,Q,f,a,w,q⟩:=z;intro p b;exact q _ _ ⟨.ref S.len,ι++[p],S.push (.d3 []),Ext.obj a b _,⟨p,a.last p,rfl⟩,a.obj' b _ _ ⟨List.nodup_nil,[],zaf,rfl⟩,w⟩
end
end R
namespace R
open PySem PySem.Spec PyProof.Rows L2
variable[Mks]
section
variable{T:Tab}{cf:CF}{k:Nat}{N:List Str}{sc:Scope}{X:Cx}{pos p p2 pos':Pos}
def zpR(L:PE X o (tE X.K cf M))(O:PE X e (tE X.K cf U))(g:zao e=Γ)(i:zbd o=Γ)(Y:(apos.endLine==cpos.line)=Γ):
  PE X (.Call (.Attribute o "extend" apos) [e] [] cpos) (tE X.K cf (.extv M U)):=by
 refine PE.imp (zqz PySem.F.plainAttrs_list PySem.F.slot_list_extend PySem.F.type_list_extend zgz L (zaV O g) (zcL i "extend" X.env _) (by rw[zan g];rfl) Y (zan g [] X.env)) λσ H Qv z=>?_;let⟨δ,ι,S,Q,hs,hh,w,q⟩:=z;change W (Out.bind _ _) _ at w;simp![zab] at w;refine tE.run hs hh w λd v ι1 H1 S1 x1 r j t n=>?_;split at n;rename_i c;refine⟨zlI j t c,?_⟩;rw[zab]at n;refine tE.run r j n λy vy ι2 H2 u x hs2 h r2 A=>?_;rw[zab]at A;let⟨o,f,w3⟩:=zaw A;unfold lsts at f;cases d with
 |ref l=>
  cases y with
  |ref m=>
   let⟨a,B,rfl⟩:=t.ext x;let⟨b,h2,rfl⟩:=r2;dsimp only at f;cases e1:u.get l with
   |none=>rw[e1]at f;exact nS f
   |some C=>
    cases e2:u.get m with
    |none=>rw[e1,e2]at f;cases C<;>exact nS f| some s=>
     rw[e1,e2]at f;cases C with
     |lst xs=>cases s with| lst ys=>cases f;let⟨a',E,zs,ha,G⟩:=h.obj _ _ e1;rw[B]at E;cases E;let⟨b',I,us,hb,J⟩:=h.obj _ _ e2;rw[h2]at I;cases I;let⟨c2,S',hp,w4⟩:=zmx w3;refine⟨a,b,zs,us,rfl,rfl,ha,hb,?_,q _ _ (Lf.up (x1.trans x) (Lf.wr (d:=.non) h e1 B hp (G.append J) rfl w4))⟩;rw[G.length,J.length,<-length_append];exact c2|_=>exact nS f
     |_=>exact nS f
  |_=>exact nS f
 |_=>exact nS f
 exact n.elim
def zpP(f:Gl X "int"/\X.mg "int"=Ψ)(h:PE X a (tE X.K cf i))(c:zao a=Γ):PE X (.Call (.Name "int" p) [a] [] pos) (tE X.K cf (.intb i)):=by refine PE.imp (zbp zuS f.1 f.2 zpc (zaV h c) (by decide) (by decide) (zan c [] X.env)) λs H t z=>?_;let⟨u,ι,S,Q,j,l,w,q⟩:=z;change W (Out.bind _ _) _ at w;simp![zab] at w;refine tE.run j l w λd v m x y n o e r g=>?_;cases d with| bl b=>cases(show v=V.bl b from r);exact⟨b,rfl,q _ _ (Lf.up n (Lf.of (d:=.int _) e rfl g))⟩|_=>exact g.elim
end
structure Ltr(K:Frag)(ι:List Addr)(H:Hp)(S:R.St)(lks:List Nat)(ι2:List Addr)(H2:Hp)(S2:R.St):Prop where
 ext:Ext ι H ι2 H2
 rh:RH K ι2 H2 S2
 lck:∀l∈lks,S2.get l=S.get l
structure Wk(K:Frag)(J:It)(ds:List D)(lks:List Nat)(ι:List Addr)(H:Hp)(S:R.St):Prop where
 go:∀(i:Nat)(ι2:List Addr)(H2:Hp)(S2:R.St),Ltr K ι H S lks ι2 H2 S2->i<ds.length->J.go i H2
 yld:∀(i:Nat)(ι2:List Addr)(H2:Hp)(S2:R.St)(x:V)(H':Hp),Ltr K ι H S lks ι2 H2 S2->i<ds.length->J.yld i H2 x H'->Ext ι2 H2 ι2 H'/\RH K ι2 H' S2/\∃d,ds[i]?=Φ d/\RV K ι2 H' d x
 stop:∀(i:Nat)(ι2:List Addr)(H2:Hp)(S2:R.St),Ltr K ι H S lks ι2 H2 S2->ds.length<=i->J.stop i H2
 lks:∀l∈lks,l<S.len
abbrev LfI(K:Frag)(ι:List Addr)(H:Hp)(Q:List D×List Nat->R.St->Prop)(J:It)(H':Hp):Prop:=∃c a ι' b,Ext ι H ι' H'/\RH K ι' H' b/\Q (c,a) b/\Wk K J c a ι' H' b
abbrev tI(K:Frag)(cf:CF)(cl:CL):TI:=λb H R=>∃a ι S Q,RS K ι H a b/\RH K ι H S/\W (evL cf cl a S) Q/\∀J H',LfI K ι H Q J H'->R J H'
def PI.imp(h:PI X c e t)(i:∀a H Q,t' a H Q->t a H Q):PI X c e t':=λb s a H Q I q=>h b s a H Q I (i a H Q q)
abbrev iSeq(K:Frag)(d:TE):TI:=λe H R=>d e H λx b=>∃a,x=.ref a/\(((∃c,SqL K b a c)/\R (Itl K a) b)\/((∃c,SqT K b a c)/\R (Itt K a) b))
section
variable{T:Tab}{cf:CF}{k:Nat}{N:List Str}{sc:Scope}{X:Cx}{pos p:Pos}{tg:Expr}
def zsU(t:PE X l u):PI X tg l (iSeq X.K u):=by
 intro f s w H R I h;refine thn (t f s w H _ I h) λv c z=>?_;let⟨x,r,d,y,i⟩:=z;let⟨a,rfl,i⟩:=i;cases y;rcases i with⟨⟨A,j⟩,q⟩|⟨⟨A,j⟩,q⟩;let⟨g,B,m,C⟩:=d.list j;refine wpAny_pyIter_list m.isList ?_;refine⟨c.heap.objs.size,[c.heap.objs.size],_,_,r,rfl,d.kept (t':=c.toks) λb o e=>Λ _ e,zgc a _,⟨_,Ζ _ rfl,rfl,rfl⟩,λb n=>?_,q⟩;have e:b=c.heap.objs.size:=by simpa using n
 subst e;exact d.fpOk (le_refl _) (d.hok.fresh (le_refl _));let⟨g,B,m,C⟩:=d.tuple j;refine wpAny_pyIter_tuple (show c.heap.IsTuple a g.toArray from m) ?_;refine⟨c.heap.objs.size,[c.heap.objs.size],_,_,r,rfl,d.kept (t':=c.toks) λb o e=>Λ _ e,zja a _,⟨_,Ζ _ rfl,rfl,rfl⟩,λb n=>?_,q⟩;have e:b=c.heap.objs.size:=by simpa using n
 subst e;exact d.fpOk (le_refl _) (d.hok.fresh (le_refl _))
def zhk{K:Frag}{ι:List Addr}{H:Hp}{S:R.St}{a:Addr}{ds:List D}{lks:List Nat}(o:∀l∈lks,l<S.len)
  (h:∀b c f,Ltr K ι H S lks b c f->∃xs,SqL K c a xs/\RVs K b c ds xs/\∀ys,SqL K c a ys->True):Wk K (Itl K a) ds lks ι H S where
 go:=λi b c f g n=>by let⟨xs,j,m,_⟩:=h b c f g;exact⟨xs,xs[i]'(by rw[m.length];exact n),j,Ι _⟩
 yld:=λi b c f x H' g n y=>by let⟨xs,j,m,_⟩:=h b c f g;let⟨rfl,y⟩:=y;let⟨d,e,r⟩:=m.get' (y xs j);exact⟨Ext.refl _ _,g.rh,d,e,r⟩
 stop:=λi b c f g n=>by let⟨xs,j,m,_⟩:=h b c f g;exact⟨xs,j,by rw[m.length];exact n⟩
 lks:=o
def zrF{K:Frag}{ι:List Addr}{H:Hp}{S:R.St}{a:Addr}{ds:List D}{lks:List Nat}{xs:List V}(j:∀l∈lks,l<S.len)(e:H a=Φ (.tup xs))(rr:RVs K ι H ds xs):Wk K (Itt K a) ds lks ι H S where
 go:=λi c g h b f=>⟨xs,xs[i]'(by rw[rr.length];exact f),SqT.of (b.ext.kp.tups _ _ e),Ι _⟩
 yld:=λi c g h x H' b f y=>by let⟨rfl,y⟩:=y;let⟨d,e,r⟩:=(rr.ext b.ext).get' (y xs (SqT.of (b.ext.kp.tups _ _ e)));exact⟨Ext.refl _ _,b.rh,d,e,r⟩
 stop:=λi c g h b f=>⟨xs,SqT.of (b.ext.kp.tups _ _ e),by rw[rr.length];exact f⟩
 lks:=j
def zos(E:PE X e (tL X.K cf cl))(u:∀{δ:Ev}{S:R.St}{Q:List D×List Nat->R.St->Prop},W (evL cf cl δ S) Q->W (evL cf cl δ S) λr y=>(∀l∈r.2,l<y.len)/\Q r y):PI X tg e (tI X.K cf cl):=by refine PI.imp (zsU E) λσ H R z=>?_;let⟨δ,ι,S,Q,G,I,w,q⟩:=z;refine tL.run G I (u w) λm c v d H1 o s J f L i=>?_;let⟨t,i⟩:=i;let⟨a,j,rfl,x,M⟩:=L;refine⟨a,rfl,?_⟩;cases M with|tmp h e=>exact .inl ⟨⟨j,SqL.of e⟩,q _ _ ⟨m,c,d,o,s,f,i,zhk t λn A B g=>⟨j,SqL.of (g.ext.keep h e (by simp)),x.ext g.ext,λ_ _=>trivial⟩⟩⟩|fix e=>exact .inl ⟨⟨j,e.sq⟩,q _ _ ⟨m,c,d,o,s,f,i,zhk t λn A B g=>⟨j,(e.kp g.ext.kp).sq,x.ext g.ext,λ_ _=>trivial⟩⟩⟩|tup e=>exact .inr ⟨⟨j,SqT.of e⟩,q _ _ ⟨m,c,d,o,s,f,i,zrF t e x⟩⟩| own l O U Y e=>refine .inl ⟨⟨j,SqL.of e⟩,q _ _ ⟨m,c,d,o,s,f,i,zhk t λn A B g=>?_⟩⟩;let⟨b,C,zs,hz,rz⟩:=g.rh.obj l (.lst m) ((g.lck l O).trans Y);rw[zbP g.ext.pre U]at C;cases C;exact⟨zs,SqL.of hz,rz,λ_ _=>trivial⟩
def zts(h:W (evL cf (.val c) δ S) Q):W (evL cf (.val c) δ S) λr b=>(∀l∈r.2,l<b.len)/\Q r b:=by
 change W (Out.bind _ _) _ at h⊢;simp![zab] at h⊢;refine h.mono λx g d=>?_;let⟨i,e,f⟩:=zaw d;rw[e];refine⟨λl a=>?_,f⟩;cases x with
 |ref j=>simp[lkOf]at a;subst a;simp![zbh]at e;split at e;rename_i e2;exact get_lt e2;exact nS e
 |_=>simp[lkOf]at a
def zqR(h:W (evL cf (.comp n d g it c e) δ S) Q):W (evL cf (.comp n d g it c e) δ S) λr b=>(∀l∈r.2,l<b.len)/\Q r b:=by change W (Out.bind _ _) _ at h⊢;simp![zab] at h⊢;refine h.mono λj m f=>f.mono λr o a=>?_;split at a;rename_i c;rw[if_pos c];exact⟨λl i=>by simp at i,a⟩;exact a.elim
def zic{K:Frag}{ι:List Addr}{H:Hp}{S:R.St}(lo:Int)(n:Nat):Wk K (Itr lo n) ((List.range n).map λ(j:Nat)=>D.int (lo+j)) [] ι H S where
 go:=λi b d e c a=>by show i<n;simpa using a
 yld:=λi b d e x H' c a y=>by
  let⟨rfl,rfl⟩:=y;have a:i<n:=by simpa using a
  exact⟨Ext.refl _ _,c.rh,.int (lo+i),by simp[a],rfl⟩
 stop:=λi b d e c a=>by show n<=i;simpa using a
 lks:=λl f=>by simp at f
def zpD(i:Gl X "range"/\X.mg "range"=Ψ)(l:PE X a (tE X.K cf m))(f:zao a=Γ):PI X tg (.Call (.Name "range" p) [a] [] pos) (tI X.K cf (.rng1 m)):=by
 refine PI.imp (zk1 i.1 i.2 (zaV l f) (zan f [] X.env)) λx H R z=>?_;let⟨y,ι,S,Q,n,o,w,q⟩:=z;change W (Out.bind _ _) _ at w;simp![zab] at w;refine tE.run n o w λd v g A r s t h u b=>?_;cases d with
 |int j=>
  obtain rfl:v=.int j:=u;dsimp only at b;split at b;rename_i c;have e:((List.range j.toNat).map λ(k:Nat)=>D.int k)=(List.range j.toNat).map λ(k:Nat)=>D.int (0+k):=by simp
  rw[e]at b;exact⟨j,rfl,c.1,c.2,q _ _ ⟨_,[],g,r,s,h,b,zic 0 j.toNat⟩⟩;exact b.elim
 |_=>exact b.elim
def zpC(r:Gl X "range"/\X.mg "range"=Ψ)(s:PE X a (tE X.K cf t))(x:PE X b (tE X.K cf y))(g:zao a=Γ)(f:zao b=Γ):PI X tg (.Call (.Name "range" p) [a,b] [] pos) (tI X.K cf (.rng2 t y)):=by refine PI.imp (zk0 r.1 r.2 (zby s (zaV x f) (zan g [b] X.env)) (by rw[zan g,zan f];rfl) (zan f [] X.env)) λU H R z=>?_;let⟨Y,ι,S,Q,A,B,w,q⟩:=z;change W (Out.bind _ _) _ at w;simp![zab] at w;refine tE.run A B w λd v C H1 S1 E l m G I=>tE.run l m I λe u n H2 J L M o O h=>?_;split at h;rename_i i j;obtain rfl:v=.int i:=G;obtain rfl:u=.int j:=O;split at h;rename_i c;exact⟨i,j,rfl,c,q _ _ ⟨_,[],n,J,E.trans L,o,h,zic i (j-i).toNat⟩⟩;exact h.elim;exact h.elim
def zc8{g:List Addr}(I:Inv X a i H s)(k:∀b o,b∉g->s.heap.get? b=Φ o->h'.get? b=Φ o)(h:∀b∈g,FpOk X a H b):Inv X a i H {s with heap:=h',toks:=t'}:=by
 have f:∀b u,H b=Φ u->b∉g:=λb u e z=>by rw[(h b z).1]at e;exact nS e
 refine I.step (g':=s.gens) (d':=s.drawn) (ch:=g) (λb j=>?_) (λb o _ _ d e _=>k b o d e) (λb o _ _ d e _=>⟨o.slots,k b o d e⟩) (λ_ _ _ _ n=>n)
  (λb o d e=>⟨o,k b o d e⟩) (λ_ _ e=>e) (λ_ _ _ e=>e) (λb E e=>⟨#[],by rw[e];simp⟩) (λm l=>?_) (λb u e=>?_) I.bare
 let⟨G,t,J,w,x,y⟩:=h b j;exact⟨w,t,x,y⟩;let⟨o,A,B,C,r⟩:=l;exact⟨o,A,B,k _ o (λz=>(h _ z).2.1 rfl) C,r⟩;refine(I.hok b u e).stay (λc v d q=>k c v ?_ q) (λ_ q=>q) λ_ _ q=>q;rcases d with z|z;rw[z];exact f b u e;exact f c _ z
abbrev tG(K:Frag)(is:List Nat):TG:=λv e H f=>∃c ι d a,RS K ι H c e/\RV K ι H d v/\asgG is d c=Φ a/\∀b,RS K ι H a b->f b H
abbrev tGs(K:Frag)(is:List Nat):TGs:=λd e H f=>∃c ι b,RS K ι H c e/\RVs K ι H b d/\b.length=is.length/\∀a,RS K ι H (zev is b c) a->f a H
def PG.imp(h:PG X tg t)(i:∀v a H Q,t' v a H Q->t v a H Q):PG X tg t':=λb s a H v u Q I r q=>h b s a H v u Q I r (i v a H Q q)
def PGs.imp(h:PGs X es t)(i:∀v a H Q,t' v a H Q->t v a H Q):PGs X es t':=λb s a H v u Q I r q=>h b s a H v u Q I r (i v a H Q q)
def zpF(G:Gd T cf k N sc X)(b:N[i]?=Φ x)(a:zgM sc x=Γ):PG X (.Name x pos) (tG X.K [i]):=by refine PG.imp (zhF (i:=i) (by rw[G.nm];exact G.nd) (by rw[G.nm];exact b) (G.lc a).1 (G.lc a).2) λv g H h z=>?_;let⟨j,ι,d,c,f,r,e,q⟩:=z;simp![asgG]at e;cases e;exact q _ (f.set r i)
abbrev zcx(sc:Scope)(N:List Str):List Nat->List Expr->Bool
 | [],[]=>Γ|i::a,.Name x _::b=>(N[i]?==Φ x)&&zgM sc x&&zcx sc N a b|_,_=>Δ
def zgf(G:Gd T cf k N sc X):∀{is:List Nat}{es:List Expr},zcx sc N is es=Γ->PGs X es (tGs X.K is)/\(assignEach es X.env).length=is.length/\(assignEach es X.env).findIdx? (·.1)=Ψ
 | [],[],_=>⟨PGs.imp zqu λv j H m z=>by
  let⟨l,ι,a,c,r,b,q⟩:=z
  have:a=[]:=by simpa using b
  subst this;exact⟨r,q j (by simpa[zev]using c)⟩,rfl,rfl⟩
 | [],_::_,h=>by simp[zcx]at h|_::_,[],h=>by simp[zcx]at h| i::is,e::es,h=>by
  cases e with
  |Name x pos=>
   simp![zcx,Ε,beq_iff_eq]at h;let⟨n,o,s⟩:=zgf G (is:=is) (es:=es) h.2;refine⟨PGs.imp (znj (zhF (i:=i) (by rw[G.nm];exact G.nd) (by rw[G.nm];exact h.1.1) (G.lc h.1.2).1 (G.lc h.1.2).2) n) λv j H m ⟨l,ι,a,c,r,b,q⟩=>?_,?_,?_⟩;cases a with|nil=>simp at b| cons d a=>let⟨t,u,rfl,w,y⟩:=r;refine⟨t,u,rfl,?_⟩;exact⟨l.set i (Φ d),ι,a,c.set w i,y,by simpa using b,λf g=>q f (by simpa[zev]using g)⟩
   show((Δ,_)::assignEach es X.env).length=_;simp[o];show((Δ,_)::assignEach es X.env).findIdx? _=_;simp[List.findIdx?_cons,s]
  |_=>simp[zcx]at h
def zod(g:2<=is.length)(e:asgG is d δ=Φ f):∃ds,d=.tup ds/\ds.length=is.length/\f=zev is ds δ:=by
 match is,g with
 |a::b::t,_=>
  cases d with
  |tup ds=>simp![asgG]at e;split at e;rename_i c;cases e;exact⟨ds,rfl,c,rfl⟩;exact nS e
  |_=>exact nS e
def zot(G:Gd T cf k N sc X)(h:zcx sc N is es=Γ)(g:2<=is.length):PG X (.Tuple es j pos) (tG X.K is):=by let⟨i,l,b⟩:=zgf G h;refine PG.imp (zsV G.calm i l b) λv w H x z=>?_;let⟨m,ι,d,n,o,r,e,q⟩:=z;let⟨s,rfl,c,rfl⟩:=zod g e;let⟨a,t,rfl,u,f⟩:=r;exact⟨a,t,rfl,SqT.of u,by rw[f.length];exact c,m,ι,s,o,f,c,q⟩
def Ext.tmp{p}(x:Ext ι H ι' H')(c:H p=Ψ)(e:H' p=Φ (.lst vs)):Ext ι H ι' (upd H' p (.lst us)):=by refine⟨x.pre,x.kp.trans (.same (Tups.upd_lst e) (λb o u h=>?_) λb i h=>?_),λb o d a=>?_⟩;rw[zad];exact h;rintro rfl;rw[e]at h;cases h;rw[zad];exact h;rintro rfl;rw[e]at h;cases h;let⟨f,g⟩:=x.rest b o d a;refine⟨?_,g⟩;rw[zad];exact f;rintro rfl;rw[c]at a;exact nS a
def Kp.tmp{p}(e:H p=Φ (.lst vs)):Kp H (upd H p (.lst us)):=.same (Tups.upd_lst e) (λb o u h=>by
 rw[zad];exact h;rintro rfl;rw[e]at h;cases h) λb a h=>by
 rw[zad];exact h;rintro rfl;rw[e]at h;cases h
def RH.tmp{K}{p}(b:RH K ι H S)(c:p∉ι)(e:H p=Φ (.lst vs)):RH K ι (upd H p (.lst us)) S:=⟨b.len,b.nd,λl o q=>by let⟨a,d,f,g⟩:=b.mem q;exact⟨a,d,f.up (Ϡ _) (Kp.tmp e) (zad λz=>c (z▸g))⟩,(Kp.tmp e).tab b.tab⟩
def RS.up{K}(h:RS K ι H δ a)(b:ι <+: ι')(c:Kp H H'):RS K ι' H' δ a:=⟨h.1,λi d e=>let ⟨v,f,r⟩:=h.2 i d e;⟨v,f,r.up b c⟩⟩
def RH.lk{K}(a:RH K ι H S)(ks):RH K ι H {S with lk:=ks}:=⟨a.len,a.nd,λl o e=>a.obj l o e,a.tab⟩
def RS.csl{K}(h:RS K ι H δ g)(a)(b):RS K ι H (R.csl a b δ) (L2.csl a b g):=by
 refine⟨by simp[R.csl,L2.csl],λi d e=>?_⟩;unfold R.csl at e;unfold L2.csl;by_cases c:i<a;rw[getElem?_append_left (by simpa using c),List.getElem?_replicate]at e;rw[if_pos c]at e;cases e;rw[getElem?_append_right (by simpa using c)]at e⊢;simp![length_replicate,getElem?_map]at e⊢;cases f:b[i-a]? with
 |none=>rw[f]at e;exact nS e
 |some j=>
  rw[f]at e;simp![Option.map_some,Option.some.injEq]at e⊢;have l:δ[j]?=Φ (Φ d):=by
   cases z:δ[j]? with
   |none=>rw[z]at e;exact nS e
   |some o=>rw[z]at e;simp at e;rw[e]
  let⟨v,m,r⟩:=h.2 j d l;exact⟨v,by rw[m];rfl,r⟩
def zgY{a:Type}{xs:List a}{x}(h:xs[i]?=Φ x):xs.drop i=x::xs.drop (i+1):=by let⟨b,c⟩:=Α.mp h;rw[List.drop_eq_getElem_cons b,c]
abbrev CInv(K:Frag)(cf:CF)(g:List Nat)(c e:CE)(Q:List D×List Nat->R.St->Prop)(ds:List D)(d:List Nat)(l:List Addr)(o:Hp)(h:R.St)(p:Addr)(i:Nat)(m:L2.St)(H':Hp):Prop:=
 i<=ds.length/\∃f ι' j b n,RS K ι' H' f m/\Ltr K l o h d ι' H' j/\j.lk=d++h.lk/\h.len<=j.len/\p∉ι'/\H' p=Φ (.lst n)/\RVs K ι' H' b n/\
  W (zax g (evT cf c) (evE cf e) (ds.drop i) f j) λa q=>(b++a).length<=16777216/\Q (b++a,[]) {q with lk:=h.lk}
def ziW(hcf:CFok cf)(h:tLt X.K cf (.comp nt js is it c e) σ H Qv):zps nt js (tI X.K cf it) (tG X.K is) (tT X.K cf c) (tE X.K cf e) σ H Qv:=by
 let⟨δ,ι,S,Q,hs,hh,w,q⟩:=h;change W (Out.bind _ _) _ at w;simp![zab] at w;refine⟨δ,ι,S,_,hs,hh,w,λJ H1 k=>?_⟩;let⟨ds,a,E,u,x1,G,w1,wk⟩:=k;dsimp only at w1;unfold zbj at w1;rw[zab]at w1;intro p M;have hpi:=G.fresh M;refine⟨λi m σ' H'=>m=ds.length-i/\CInv X.K cf is c e Q ds a E H1 u p i σ' H',⟨_,rfl,zero_le _,R.csl nt js δ,E,{u with lk:=a++u.lk},[],[],((hs.ext x1).csl _ _).up (Ϡ _) (Kp.new M _),⟨Ext.new M _,(G.lk _).new M _,λl _=>rfl⟩,rfl,le_refl _,hpi,zaf,rfl,?_⟩,?_⟩;refine w1.mono λy S2 w2=>?_;simp![W_ok]at w2;split at w2;rename_i c;exact⟨by simpa using c,by simpa using w2⟩;exact w2.elim;rintro i m σ' H' ⟨rfl,hle,δ',ι',O,r,vs,hs',A,hlk,hln,s,hpv,ra,g⟩;rcases Nat.lt_or_eq_of_le hle with t|rfl;refine .inr ⟨wk.go i ι' H' O A t,CInv X.K cf is c e Q ds a E H1 u p (i+1),λσ2 H2 h=>⟨_,by lia,rfl,h⟩,λx H2 hy=>?_⟩;let⟨U,hh2,d,hd,rd⟩:=wk.yld i ι' H' O x H2 A t hy;have hs2:=hs'.ext U;have hp2:=U.keep s hpv (by simp);rw[zgY hd]at g;simp![zax]at g;cases ea:asgG is d δ' with
 |none=>rw[ea]at g;exact g.elim| some j=>
  rw[ea]at g;dsimp only at g;rw[zab]at g;refine⟨δ',ι',d,j,hs2,rd,ea,λσ2 hs3=>?_⟩;refine tT.run hs3 hh2 ((frT hcf c j O).w g) λb ι3 H3 S3 Y hs4 hh3 I=>?_;let⟨I,f3⟩:=I;have L:=Y.keep s hp2 (by simp);have n:=(Y.rest p _ s hp2).2;have B:∀{S4:R.St},Frm O S4->S4.lk=a++u.lk/\u.len<=S4.len/\∀l∈a,S4.get l=u.get l:=λf=>⟨f.lk.trans hlk,le_trans hln f.lens,λl hl=>(f.same l (by rw[hlk];exact mem_append_left _ hl) (lt_of_lt_of_le (wk.lks l hl) hln)).trans (A.lck l hl)⟩;cases b with
  |false=>simp![Ρ,if_false]at I⊢;let⟨k1,k2,k3⟩:=B f3;exact⟨t,j,ι3,S3,r,vs,hs4,⟨(A.ext.trans U).trans Y,hh3,k3⟩,k1,k2,n,L,(ra.ext U).ext Y,I⟩| true=>
   simp![if_true]at I⊢;rw[zab]at I;refine tE.run hs4 hh3 ((frE hcf e j S3).w I) λz v ι4 H4 S4 x4 hs5 hh4 rz w4=>?_;let⟨w4,f4⟩:=w4;let⟨k1,k2,k3⟩:=B (f3.trans f4);have o:=x4.keep n L (by simp);have C:=(x4.rest p _ n L).2;rw[zab]at w4;have ra4:=((ra.ext U).ext Y).ext x4;have hlen:r.length<16777216:=by let⟨y,S5,_,w5⟩:=zf8 w4;have:=w5.1;simp at this;lia
   refine⟨vs,o,by rw[ra4.length,Υ];exact hlen,t,j,ι4,S4,r++[z],vs++[v],hs5.up (Ϡ _) (Kp.tmp o),⟨(((A.ext.trans U).trans Y).trans x4).tmp M o,hh4.tmp C o,k3⟩,k1,k2,C,zaf,?_,?_⟩;exact(RVs.append (es:=[z]) (us:=[v]) ra4 ⟨v,[],rfl,rz,rfl⟩).up (Ϡ _) (Kp.tmp o);refine w4.mono λy S5 w5=>?_;simp![W_ok]at w5;simpa using w5
 refine .inl ⟨wk.stop _ ι' H' O A (le_refl _),?_⟩;rw[List.drop_length]at g;simp![zax,W_ok,Ϥ]at g;exact q _ _ ⟨r,ι',{O with lk:=u.lk},p,vs,x1.trans A.ext,rfl,ra,s,hpv,A.rh.lk _,zmo G x1 M,g.2⟩
abbrev Ite(K:Frag)(a:Addr):It:=
 ⟨λi H=>∃b x,SqL K H a b/\b[i]?=Φ x,
  λi H v H'=>∃T x,H T=Ψ/\v=.ref T/\H'=upd H T (.tup [.int i,x])/\∀b,SqL K H a b->b[i]?=Φ x,
  λi H=>∃b,SqL K H a b/\b.length<=i⟩
def zj5{P:ϊ}{w:ό}{K:Frag}{es:List Expr}{j:Nat}{pt:Pos}{e it a:Addr}(r:e≠it):Turn P w K (.Tuple es j pt) (Ite K a) [e,it] e
  (λi h=>(∃l,IsEnum h e it i l)/\h.IsListIter it a i) where
 mem:=by simp
 obj:=λi h st c d=>by let⟨⟨l,m⟩,⟨o4,B,_,d4⟩⟩:=st;simp![mem_cons,not_mem_nil,or_false]at d;rcases d with rfl|rfl;exact⟨_,m,λv z=>by cases z⟩;exact⟨_,B,λv z=>by rw[d4]at z;cases z⟩
 keep:=λi h h' st k=>by let⟨⟨l,m⟩,B⟩:=st;exact⟨⟨l,k e (by simp) _ m⟩,B.at λo x=>k it (by simp) o x⟩
 item:=by
  intro X C G J d i g s L H E I M st O;subst C G J;let⟨xs,x,y,hx⟩:=O;let⟨xv,Q,U,_⟩:=I.list y;let⟨u,hu,ru⟩:=Q.get hx;let⟨⟨l,A⟩,m⟩:=st;refine wpAny_pyNext_enum_item A m U.isList (x:=u) (by simpa using hu) r λh' a1 a3 a5 a6 Y=>?_;have hn:H s.heap.objs.size=Ψ:=I.hok.fresh (le_refl _);have I1:Inv X g L (upd H s.heap.objs.size (.tup [.int i,x])) {s with heap:=s.heap.push {cls:=.type "tuple",data:=.seq #[.int i s.toks,u]},toks:=s.toks+1}:=I.laid (t':=s.toks+1) (λb u e=>Λ _ e) (le_refl _) ⟨by rw[Υ];simp,[.int i s.toks,u],.cons ⟨_,rfl⟩ (.cons ru .nil),⟨_,Ζ _ rfl,rfl,_,rfl⟩⟩;have lt:∀{c o},s.heap.get? c=Φ o->c≠s.heap.objs.size:=λe=>ne_of_lt (Η e);have nf:∀c∈[e,it],c≠s.heap.objs.size:=by intro c d;simp![mem_cons,not_mem_nil,or_false]at d;rcases d with rfl|rfl;exact lt A;let⟨o,z,_⟩:=m;exact lt z
  have n:∀c∈[e,it],FpOk X g (upd H s.heap.objs.size (.tup [.int i,x])) c:=λc d=>by let⟨f0,f⟩:=M c d;exact⟨by rw[zad (nf c d)];exact f0,f⟩
  have two:∀{c:Addr},¬c∈[e,it]->c≠e/\c≠it:=λ{c} d=>by simp![mem_cons,not_mem_nil,or_false,not_or]at d;exact d
  have k2:∀c o,¬c∈[e,it]->(s.heap.push {cls:=.type "tuple",data:=.seq #[.int i s.toks,u]}).get? c=Φ o->h'.get? c=Φ o:=λc o d z=>by by_cases hs:c=s.heap.objs.size;subst hs;have e2:(s.heap.push {cls:=.type "tuple",data:=.seq #[.int i s.toks,u]}).get? s.heap.objs.size=_:=Ζ _ rfl;rw[e2]at z;cases z;exact a5;exact Y c o (two d).1 (two d).2 ((Heap.get?_push_ne _ _ _ hs).symm.trans z)
  have I2:Inv X g L (upd H s.heap.objs.size (.tup [.int i,x])) {s with heap:=h',toks:=s.toks+1}:=zc8 (s:={s with heap:=s.heap.push {cls:=.type "tuple",data:=.seq #[.int i s.toks,u]},toks:=s.toks+1}) (h':=h') (t':=s.toks+1) I1 k2 n;refine⟨_,rfl,?_⟩;refine wpAny_letOwnedTupleGo_enum a1 λh2' hz' t=>?_;refine⟨.ref s.heap.objs.size,upd H s.heap.objs.size (.tup [.int i,x]),zc8 (t':=s.toks+1) I2 (λc o d z=>t.extBut _ _ (two d).1 z) n,rfl,⟨_,x,hn,rfl,rfl,λxs' hx'=>by rw[I.list_inj hx' y];exact hx⟩,
   ⟨⟨_,hz'⟩,a3.extBut t.extBut (Ne.symm r)⟩,λc d=>(n c d).1⟩
 done:=by intro X C G J d i g s L H E I M st O;subst C G J;let⟨xs,y,hl⟩:=O;let⟨xv,Q,U,_⟩:=I.list y;let⟨⟨l,A⟩,m⟩:=st;have l1:=Q.length;refine wpAny_pyNext_enum_end (I.ok.hd d) A m U.isList (by simp;lia) λh' Y=>⟨rfl,zc8 (t':=s.toks) I (λc o d z=>Y c o (λq=>d (by simp[q])) z) M⟩
 self:=λ_ _ _ _ _ st h=>wpAny_pyIter_enum st.1.choose_spec h
abbrev zuV(K:Frag)(t:TA):TI:=λc H R=>t c H λd b=>∃a e,d=[.ref a]/\SqL K b a e/\R (Ite K a) b
def zqt(n:Gl X "enumerate")(o:X.mg "enumerate"=Ψ)(t:PA X [a] u)(hs:starEach [a] X.env=[(Δ,eval a X.env)]):
  PI X (.Tuple es j G) (.Call (.Name "enumerate" p) [a] [] pos) (zuV X.K u):=by
 intro b s v H R I h;refine Call_ (zdl I n o boot_enumerate (PyProof.Rows.callWith_type1 (thn (t pos b s v H _ I h) λJ g z=>?_) hs rfl));let⟨L,w,d,x,f⟩:=z;let⟨l,M,e,f,q⟩:=f;subst e;cases x with
 |cons r y=>
  cases y;cases r;let⟨O,Q,A,_⟩:=d.list f;refine call_enumerate_list A.isList λU i B C E=>?_;refine wpAny_pyIter_enum i ?_;refine⟨_,_,_,_,w,rfl,d.kept (t':=g.toks) E,zj5 (Nat.succ_ne_self _),⟨⟨_,i⟩,B⟩,λc m=>?_,q⟩;simp![mem_cons,not_mem_nil,or_false]at m;have:g.heap.objs.size<=c:=by rcases m with rfl|rfl;exact le_succ _;exact le_refl _
  exact d.fpOk this (d.hok.fresh this)
def zph{K}(o:S.get l=Φ (.lst ds))(t:ι[l]?=Φ a):Wk K (Ite K a) (ds.mapIdx λi d=>zhH (.int i) d) [l] ι H S:=by
 have g:∀{b f m},Ltr K ι H S [l] b f m->∃c,SqL K f a c/\RVs K b f ds c:=λ{b f m} e=>by let⟨C,q,c,h,j⟩:=e.rh.obj l (.lst ds) ((e.lck l (by simp)).trans o);rw[zbP e.ext.pre t]at q;cases q;exact⟨c,SqL.of h,j⟩
 refine⟨λi b f m e n=>?_,λi b f m x H' e n y=>?_,λi b f m e n=>?_,λk v=>?_⟩;let⟨c,h,j⟩:=g e;rw[List.length_mapIdx]at n;have w:=j.length;exact⟨c,c[i]'(by lia),h,Ι _⟩;let⟨c,h,j⟩:=g e;let⟨T,u,r,rfl,rfl,z⟩:=y;let⟨d,A,B⟩:=j.get' (z c h);have s:Ext b f b (upd f T (.tup [.int i,u])):=Ext.new r _;refine⟨s,e.rh.new r _,zhH (.int i) d,by rw[List.getElem?_mapIdx,A];rfl,?_⟩;exact⟨T,[.int i,u],rfl,zaf,.int i,[u],rfl,rfl,u,[],rfl,B.ext s,rfl⟩;let⟨c,h,j⟩:=g e;rw[List.length_mapIdx]at n;have w:=j.length;exact⟨c,h,by lia⟩;cases mem_singleton.mp v;exact get_lt o
end
end R
namespace R
open PySem PySem.Spec PyProof.Rows L2
section
variable[Mks]{T:Tab}{cf:CF}{k:Nat}{N:List Str}{sc:Scope}{X:Cx}{pos p:Pos}
def zjJ(h:zdn S x=Φ r):∃l ds,x=.ref l/\S.get l=Φ (.lst ds)/\r=(ds.mapIdx λi d=>zhH (.int i) d,[l]):=by
 cases x with
 |ref l=>
  simp![zdn]at h;cases e:S.get l with
  |none=>rw[e]at h;exact nS h
  |some o=>rw[e]at h;cases o with|lst ds=>cases h;exact⟨l,ds,rfl,e,rfl⟩|_=>exact nS h
 |_=>exact nS h
def zpE(f:Gl X "enumerate"/\X.mg "enumerate"=Ψ)(m:PE X a (tE X.K cf n))(b:zao a=Γ):PI X (.Tuple es j I) (.Call (.Name "enumerate" p) [a] [] pos) (tI X.K cf (.enum n)):=by refine PI.imp (zqt f.1 f.2 (zaV m b) (zan b [] X.env)) λJ H R z=>?_;let⟨L,ι,S,Q,o,s,w,q⟩:=z;change W (Out.bind _ _) _ at w;simp![zab] at w;refine tE.run o s w λd v e M t u x c y A=>?_;let⟨r,B,C⟩:=zaw A;let⟨l,O,rfl,g,rfl⟩:=zjJ B;let⟨a,h,rfl⟩:=y;let⟨U,i,E,G,Y⟩:=c.obj l _ g;rw[h]at i;cases i;exact⟨a,E,rfl,SqL.of G,q _ _ ⟨_,_,e,t,u,c,C,zph g h⟩⟩
end
end R
namespace R
open PySem PySem.Spec PyProof.Rows L2
variable[Mks]
abbrev noTab:Tab:={blt:=[],cons:=[],fns:=[]}
abbrev noCF:CF:=λ_ _ _=>.bad
def ziC{K}:TabOk noTab noCF k P w K a base:=⟨λx h=>(by exact nB h),λx d h=>(by exact nS h),λf x b e h=>(by simp[noTab]at h),λf g S d i h=>(by cases h),λc x h=>(by simp[noTab]at h),λc m f h=>(by simp[noTab]at h),λc f j h=>(by simp[noTab]at h),λx m f h=>(by simp[noTab]at h),λh=>(by simp[noTab]at h),λx l h=>(by simp[noTab]at h)⟩
def zsG{K}(a:TB H):RH K [] H ⟨[],[],[]⟩:=⟨rfl,List.nodup_nil,λl o h=>(by simp[St.get]at h),a⟩
section
variable{X:Cx}{pins:List (Addr×Obj)}{σ:L2.St}{H H':Hp}{s:Β}
structure Own(X:Cx)(pins:List (Addr×Obj))(b:Addr):Prop where
 new:X.s₀.heap.objs.size<=b
 loc:b≠X.env.locals
 cel:∀x c,X.env.cells.lookup x=Φ c->c≠b
 pin:∀p∈X.pn++pins,p.1≠b
def Own.fresh(I:Inv X pins σ H s)(h:s.heap.objs.size<=b):Own X pins b:=by refine⟨le_trans I.sz h,λe=>?_,λx c e z=>?_,λp a z=>?_⟩;exact absurd (lt_of_lt_of_le I.lt h) (by rw[e];exact lt_irrefl _);let⟨v,o,d,_⟩:=I.cell x c e;exact absurd (lt_of_lt_of_le (Η d) h) (by rw[z];exact lt_irrefl _);exact absurd (lt_of_lt_of_le (Η (I.pin p a).1) h) (by rw[z];exact lt_irrefl _)
def Own.stk(o:Own X pins b)(I:Inv X pins σ H s):b∉frs X.stack:=λa=>by rcases mem_cons.mp (I.stkSub b a) with e|e;exact o.loc e;let⟨_,d,c,_⟩:=I.ok.funs.mem e;exact absurd (lt_of_lt_of_le (Η c) o.new) (lt_irrefl _)
def zaG{ch:List Addr}(I:Inv X pins σ H s)(f:∀b∈ch,Own X pins b)(g:∀b∈ch,H b=Ψ)(k:∀b o,b∉ch->s.heap.get? b=Φ o->h'.get? b=Φ o)(h:AllBare g'):
  Inv X pins σ H {s with heap:=h',gens:=g',drawn:=d',toks:=t'}:=by
 refine I.call (ch:=ch) ⟨λb o e n _ d=>k b o d e,λb o e n _ d=>⟨o.slots,k b o d e⟩,λb o _ n _=>n,λb o e d=>⟨o,k b o d e⟩,λ_ _ e=>e,λ_ _ _ e=>e,λb i e=>⟨#[],by rw[e];simp⟩⟩ ?_ h λb c=>⟨.inr (f b c).new,(f b c).loc,(f b c).cel,(f b c).pin⟩;intro a o e;refine(I.hok a o e).stay (λb u c q=>k b u (λz=>?_) q) (λ_ q=>q) λ_ _ q=>q;have:=g b z;rcases c with rfl|c;rw[e]at this;cases this;rw[c]at this;cases this
end
section
variable{X:Cx}{pins:List (Addr×Obj)}{σ:L2.St}{H H':Hp}{s:Β}{b:Addr}{o:HO}
def zbH(I:Inv X pins σ H s)(f:Own X pins b)(d:H b=Ψ)(ok:ObjOk X.prog X.w (upd H b o) s.heap b o):Inv X pins σ (upd H b o) s:=by
 have g:Un (frs X.stack) [b] H (upd H b o) s.heap s.heap:=⟨λc q e _ _ _=>e,λc q e _ _ _=>⟨q.slots,e⟩,λc q e n h=>by rw[zad (by simpa using h)];exact n,λc q e _=>⟨q,e⟩,
  λc i q=>by rw[zad (zai q d)];exact q,λc q u e=>by rw[zad (zai e d)];exact e,λc k q=>⟨#[],by rw[zad (zai q d),q];simp⟩⟩
 refine I.call' rfl g ?_ I.bare λc j=>?_;intro a u e;by_cases z:a=b;subst z;rw[zaf]at e;cases e;exact ok;rw[zad z]at e;exact(I.hok a u e).stay (λ_ _ _ q=>q) (λc q=>by rw[zad (zai q d)];exact q) λc i q=>by rw[zad (zai q d)];exact q
 rw[mem_singleton.mp j];exact⟨.inr f.new,f.loc,f.cel,f.pin⟩
end
structure StepT(P:Addr)(H H':Hp):Prop where
 rest:∀a o,a≠P->H a=Φ o->H' a=Φ o
 tab:∀ps,H P=Φ (.tbl ps)->∃more,H' P=Φ (.tbl (ps++more))
def zcZ(h:TriplesOk l)(e:codeAmong pos (l++[a,b,c])=Φ v):codeAmong pos l=Φ v\/v=c:=by
 induction l using codeAmong.induct (pos:=pos) with
 |case1 d _ g _ k f cond=>simp![List.cons_append,codeAmong,cond,if_true]at e⊢;exact .inl e| case2 d _ g _ k f cond m=>simp![List.cons_append,codeAmong,cond,if_false]at e⊢;exact m (by simpa[TriplesOk]using h) e| case3 l i=>
  cases l with
  |nil=>right;unfold codeAmong at e;split at e;rename_i h;simp at h;let⟨_,_,rfl,rfl⟩:=h;split at e;cases e;rfl;simp[codeAmong]at e;exact nS e
  |cons x l=>exfalso;unfold TriplesOk at h;split at h;rename_i j;cases j;rename_i j;cases j;exact i _ _ _ _ _ _ rfl;exact h
def StepT.ext(st:StepT P H H')(b:H P=Φ (.tbl ps))(f:TB H'):Ext [] H [] H':=by
 have c:∀a o,H a=Φ o->(∀ps,o≠.tbl ps)->a≠P:=λa o e n z=>by rw[z,b]at e;cases e;exact n _ rfl
 refine⟨Ϡ _,⟨λa h e=>st.rest a _ (c a _ e (by simp)) e,λa o u e=>st.rest a _ (c a _ e (by simp)) e,λ_=>f⟩,λa o _ e=>⟨?_,by simp⟩⟩;by_cases z:a=P;subst z;let⟨d,g⟩:=st.tab ps b;rw[b]at e;cases e;exact .inr ⟨⟨_,rfl⟩,_,g⟩;exact .inl (st.rest a o z e)
section
variable{X:Cx}{pins:List (Addr×Obj)}{σ:L2.St}{H:Hp}{s:Β}{c P:Addr}{params:Arguments}{scope:Scope}{lpos:Pos}
def BM.at_(b:BM X.mg X.base)(I:Inv X pins σ H s)(f:H P=Φ o):s.heap.BuiltinsAt X.mg P:=by let⟨a,d,g,h,i,j,k⟩:=b;let⟨l,e⟩:=I.bs a d j;exact⟨a,d,g,h,i,λz=>(by rw[z,f]at e;cases e),l,k⟩
abbrev zve(H:Hp)(f:Addr)(name a:Str)(params:Arguments)(body:List Stmt)(scope:Scope)(b:List (Str×Addr)):Prop:=∃(i j d:Ξ) (e:Addr) (g:Obj) (h:Array Ξ) (t:Tok),H f=Φ (.frz (PySem.W.fnMade name a params body scope b d i e j) (.own 0))/\H e=Φ (.frz g (.own 0))/\g.data=.fields h/\h[1]?=Φ (.str a t)
def zn2(I:Inv X pins σ H s)(bm:BM X.mg X.base)(x:X.env.code=.ref c)(hC:codeHdIn X.K c P=Γ)(tb:TabIn H P h)(O:closureFor scope X.env=pure i)(q:∀f H' s',Inv X pins σ H' s'->zve H' f name h params body scope i->TabIn H' P h->StepT P H H'->Q (.ref f) s'):
  wpAny (model X.prog X.w) X.A (makeFunction name h params (.stmts body) scope X.env [] [] [] lpos fl) Q E s:=by
 let⟨B,p,T,h3⟩:=tb;have C:=PySem.W.codeHd_of_K I.kIn hC;have hP:s.heap.get? P=Φ (tabObj B):=I.hok P _ p;have k:=bm.at_ I p;have hg:s.heap.Ns mainGlobals X.mg:=I.mod.glob.keeps I.bk;have U:P<s.heap.objs.size:=Η hP;cases hf:codeAmong lpos B.toList with
 |some cv=>
  let⟨g,G,vs,t,rfl,Y,a3,a4⟩:=h3 lpos cv hf;refine PySem.W.makeFunction_hit O I.ok.glob hg x C hP T hf k λl m j tk hk hsz=>?_;have hn:H j.objs.size=Ψ:=I.hok.fresh hsz;have ow:Own X pins j.objs.size:=Own.fresh I hsz;have I1:Inv X pins σ H {s with heap:=j.push (PySem.W.fnMade name h params body scope i m ((X.mg "__name__").getD .none) g l),toks:=tk}:=zaG (g':=s.gens) (t':=tk) (d':=s.drawn) (ch:=[]) I (λb k=>by cases k) (λb k=>by cases k) (λb o _ e=>Λ _ (hk b o e)) I.bare;have I2:=zbH (o:=.frz (PySem.W.fnMade name h params body scope i m ((X.mg "__name__").getD .none) g l) (.own 0)) I1 ow hn ⟨Ζ _ rfl,_,Ζ _ rfl⟩;have st:∀a o,H a=Φ o->upd H j.objs.size (.frz (PySem.W.fnMade name h params body scope i m ((X.mg "__name__").getD .none) g l) (.own 0)) a=Φ o:=λa o e=>by rw[zad (zai e hn)];exact e
  refine q _ _ _ I2 ⟨_,l,m,g,G,vs,t,zaf,st _ _ Y,a3,a4⟩ ?_ ⟨λa o _ e=>st a o e,λps' e=>⟨#[],by rw[st _ _ e];simp⟩⟩;exact TabIn.up ⟨B,p,T,h3⟩ (by rw[st _ _ p,p]) λb o u e=>st _ _ e
 |none=>
  have hgP:mainGlobals≠P:=λz=>by let⟨o,es,ep,e,hd,_⟩:=hg;rw[z,hP]at e;cases e;cases hd
  refine PySem.W.makeFunction_K O I.ok.glob hg x C hP T hf hgP k λg l m j tk hx w J hrec htb=>?_;let⟨c2,G,vs,t,e2,hoc,hd,hv⟩:=hrec;cases e2;generalize hfo:PySem.W.fnMade name h params body scope i m ((X.mg "__name__").getD .none) g l=L;have hfr:(j.push L).get? j.objs.size=Φ L:=by rw[<-hfo];exact Ζ _ rfl
  have hfn:H j.objs.size=Ψ:=I.hok.fresh (le_trans w (le_of_lt J));have hcn:H g=Ψ:=I.hok.fresh w;have nPc:P≠g:=ne_of_lt (lt_of_lt_of_le U w);have nPf:P≠j.objs.size:=ne_of_lt (lt_trans (lt_of_lt_of_le U w) J);have ncf:g≠j.objs.size:=ne_of_lt J;have st:∀a o,a≠P->H a=Φ o->upd (upd (upd H P (.tbl (B ++ #[rawInt lpos.line,rawInt lpos.col,.ref g]))) g (.frz G (.own 0))) j.objs.size (.frz L (.own 0)) a=Φ o:=λa o n e=>by rw[zad (zai e hfn),zad (zai e hcn),zad n];exact e
  have M:upd (upd (upd H P (.tbl (B ++ #[rawInt lpos.line,rawInt lpos.col,.ref g]))) g (.frz G (.own 0))) j.objs.size (.frz L (.own 0)) P=Φ (.tbl (B ++ #[rawInt lpos.line,rawInt lpos.col,.ref g])):=by rw[zad nPf,zad nPc,zaf]
  have atC:upd (upd (upd H P (.tbl (B ++ #[rawInt lpos.line,rawInt lpos.col,.ref g]))) g (.frz G (.own 0))) j.objs.size (.frz L (.own 0)) g=Φ (.frz G (.own 0)):=by rw[zad ncf,zaf]
  have N:∀a,H a=Ψ->a≠P:=λa e z=>by rw[z,p]at e;cases e
  have r:∀b o,b≠P->s.heap.get? b=Φ o->(j.push L).get? b=Φ o:=λb o n e=>Λ _ (hx b o n e);have inv:Inv X pins σ (upd (upd (upd H P (.tbl (B ++ #[rawInt lpos.line,rawInt lpos.col,.ref g]))) g (.frz G (.own 0))) j.objs.size (.frz L (.own 0))) {s with heap:=j.push L,toks:=tk}:=by refine I.call (g':=s.gens) (t':=tk) (d':=s.drawn) (ch:=[]) ⟨λb o e n _ _=>r b o (N b n) e,λb o e n _ _=>⟨o.slots,r b o (N b n) e⟩,λb o e n _=>?_,λb o e _=>?_,λb xs e=>?_,λb o u e=>?_,λb ps' e=>?_⟩ ?_ I.bare (λb k=>by cases k);have k:=Η e;rw[zad (ne_of_lt (lt_trans (lt_of_lt_of_le k w) J)),zad (ne_of_lt (lt_of_lt_of_le k w)),zad (N b n)];exact n;by_cases z:b=P;subst z;exact⟨_,Λ _ htb⟩;exact⟨o,r b o z e⟩;exact st b _ (λz=>by rw[z,p]at e;cases e) e;exact st b _ (λz=>by rw[z,p]at e;cases e) e;by_cases z:b=P;subst z;rw[p]at e;cases e;exact⟨_,M⟩;exact⟨#[],by rw[st b _ z e];simp⟩;intro a u e;by_cases zf:a=j.objs.size;subst zf;rw[zaf]at e;cases e;exact⟨hfr,_,hfr⟩;rw[zad zf]at e;by_cases zc:a=g;subst zc;rw[zaf]at e;cases e;exact⟨Λ _ hoc,_,Λ _ hoc⟩;rw[zad zc]at e;by_cases zp:a=P;subst zp;rw[zaf]at e;cases e;exact Λ _ htb;rw[zad zp]at e;refine(I.hok a u e).stay (λb o k A=>r b o ?_ A) (λb A=>st b _ (λz=>by rw[z,p]at A;cases A) A) λb xs A=>st b _ (λz=>by rw[z,p]at A;cases A) A;rcases k with rfl|k;exact zp;intro z;rw[z,p]at k;cases k
  refine q _ _ _ inv ⟨_,l,m,g,G,vs,t,by rw[zaf,<-hfo],atC,hd,hv⟩ ?_ ⟨λa o n e=>st a o n e,λps' e=>by rw[p]at e;cases e;exact⟨_,M⟩⟩;refine⟨_,M,?_,λpos v e=>?_⟩;have:=TriplesOk_snoc lpos.line lpos.col (.ref g) B.toList T;simpa using this;have A:codeAmong pos (B.toList++[rawInt lpos.line,rawInt lpos.col,.ref g])=Φ v:=by simpa using e
  rcases zcZ T A with z|z;let⟨d,od,ws,u,a1,Y,a3⟩:=h3 pos v z;exact⟨d,od,ws,u,a1,st _ _ (λy=>by rw[y,p]at Y;cases Y) Y,a3⟩;exact⟨g,G,vs,t,z,atC,hd,hv⟩
end
def zls{K}(S:FnScope N ps scope)(g:Room (k+1) A)(h:Env0 P w K m base A outer s H)(p:s.heap.get? f=Φ (kla_obj name a c body scope [] B c' ct))(i:s.heap.CodeRec (.ref c') a)(C:BindsTo s (kla_fn name a c body scope [] B (.ref c') ct) args (ps.zip us))(r:Vals vs us)(G:vs.length=ps.length)(L:Room k (A.deeper (envOfC a scope s.heap.objs.size f (.ref c')))->PE (cxOf CX P w K m base N a scope f (.ref c') A outer s H E) body t)(M:t (start N vs) H Q):
  codeAny (model P w) A (.call (.ref f) args) (CR CX outer P w H s Q E) s:=by
 have l:s.heap.NoLimit:=h.mod.nolimit.keeps λb o e=>(h.bs b o e).1;have d:∀y∈ps.zip us,scope.names.lookup y.1=Φ .local\/(scope.names.lookup y.1=Φ .cell/\((cellsFrom (s.heap.objs.size+1) scope.names []).lookup y.1).isSome=Γ):=λj O=>(by let⟨x,v⟩:=j;exact (S.par x (of_mem_zip O).1).elim .inl λq=>.inr ⟨q,cellsFrom_some _ _ _ (.inl q)⟩);refine PySem.W.kla_callFunE g.depth p rfl S.co S.gen rfl i (C _ _ _ _ ?_);refine wpAny_newFunctionEnv_cells S.kind d λT U n x=>?_;subst U;refine⟨l.keeps x.toInCall.keep,PySem.W.kla_codeExpr ?_⟩;have I:Inv (cxOf CX P w K m base N a scope f (.ref c') A outer s H E) [] (start N vs) H n:=zeb S g.hd h G r x;exact ύ (L (g.deeper _) [] n (start N vs) H _ I M) (λu Y z=>(by let⟨v,H',J,rv,q⟩:=z;exact ⟨v,H',J.os,J.bare,J.base,J.hok,rv,q⟩)) λe Y hs=>hs
structure LamAt(H:Hp)(f:Addr)(name qual:Str)(params:Arguments)(body:Expr)(scope:Scope):Prop where
 ex:∃(pm ct:Ξ) (c':Addr) (oc:Obj) (vs:Array Ξ) (t:Tok),H f=Φ (.frz (kla_obj name qual params body scope [] pm c' ct) (.own 0))/\H c'=Φ (.frz oc (.own 0))/\oc.data=.fields vs/\vs[1]?=Φ (.str qual t)
def LamAt.up(L:LamAt H f name b a body scope)(k:Kp H H'):LamAt H' f name b a body scope:=by let⟨c,d,e,g,h,t,i,j,l⟩:=L.ex;exact⟨c,d,e,g,h,t,k.frzs _ _ _ i,k.frzs _ _ _ j,l⟩
@[reducible]def zf9(s:Β)(a:Addr)(vs:List Ξ)(e:Nat):Prop:=s.heap.get? a=Φ (seqObj "list" vs.toArray e)
def zfw(h:zf9 s a vs e)(g)(b:g vs.toArray=us.toArray):∃c,zf9 {s with heap:=s.heap.update a (Obj.mapSeq g)} a us c:=⟨_,by have:=get?_update_seq h g;rw[b]at this;exact this⟩
def zcl{s:Β}(n:b≠a)(h:s.heap.get? b=Φ o):(s.heap.update a g).get? b=Φ o:=by rw[Heap.get?_update_ne _ _ _ _ n];exact h
structure KEnd(X:Cx)(pins:List (Addr×Obj))(σ:L2.St)(H:Hp)(D:Addr)(out:List Ξ)(s':Β):Prop where
 ex:∃H' e,Inv X pins σ H' s'/\Ext [] H [] H'/\H' D=Ψ/\zf9 s' D out e
def getD_mem{a:Type}{xs:List a}(d)(h:i<xs.length):xs[i]?=Φ (xs.getD i d):=by rw[ϋ,Ι h];rfl
section
variable{X:Cx}{pins:List (Addr×Obj)}{σ:L2.St}{H H':Hp}{s:Β}{b:Addr}{o:HO}
def zfX(c:H b=Ψ):Ext [] H [] (upd H b o):=⟨Ϡ _,Kp.new c o,λa u _ e=>⟨.inl (by rw[zad (zai e c)];exact e),by simp⟩⟩
end
section
variable{X:Cx}{pins:List (Addr×Obj)}{σ:L2.St}{H:Hp}{s:Β}{c P:Addr}{params:Arguments}{body:Expr}{scope:Scope}{lpos:Pos}
def znH(I:Inv X pins σ H s)(bm:BM X.mg X.base)(p:X.env.code=.ref c)(hC:codeHdIn X.K c P=Γ)(tb:TabIn H P (X.env.qual ++ "<lambda>"))(L:defaultsOf params X.env=([],[]))(M:closureFor scope X.env=pure [])(q:∀f H' s',Inv X pins σ H' s'->LamAt H' f "<lambda>" (X.env.qual ++ "<lambda>") params body scope->TabIn H' P (X.env.qual ++ "<lambda>")->StepT P H H'->Q (.ref f) s'):
  wpAny (model X.prog X.w) X.A (eval (.Lambda params body scope lpos) X.env) Q E s:=by
 let⟨w,k,N,h3⟩:=tb;have C:=PySem.W.codeHd_of_K I.kIn hC;have hP:s.heap.get? P=Φ (tabObj w):=I.hok P _ k;have i:=bm.at_ I k;have hg:s.heap.Ns mainGlobals X.mg:=I.mod.glob.keeps I.bk;have O:P<s.heap.objs.size:=Η hP;refine PySem.W.kla_eval L ?_;cases hf:codeAmong lpos w.toList with
 |some cv=>
  let⟨g,x,vs,t,rfl,T,a3,a4⟩:=h3 lpos cv hf;refine PySem.W.kla_makeFunctionHit M I.ok.glob hg p C hP N hf i λj h U hk Y=>?_;have hn:H h.objs.size=Ψ:=I.hok.fresh Y;have ow:Own X pins h.objs.size:=Own.fresh I Y;have I1:Inv X pins σ H {s with heap:=h.push (kla_obj "<lambda>" (X.env.qual ++ "<lambda>") params body scope [] ((X.mg "__name__").getD .none) g j),toks:=U}:=zaG (g':=s.gens) (t':=U) (d':=s.drawn) (ch:=[]) I (λb i=>by cases i) (λb i=>by cases i) (λb o _ e=>Λ _ (hk b o e)) I.bare;have I2:=zbH (o:=.frz (kla_obj "<lambda>" (X.env.qual ++ "<lambda>") params body scope [] ((X.mg "__name__").getD .none) g j) (.own 0)) I1 ow hn ⟨Ζ _ rfl,_,Ζ _ rfl⟩;have st:∀a o,H a=Φ o->upd H h.objs.size (.frz (kla_obj "<lambda>" (X.env.qual ++ "<lambda>") params body scope [] ((X.mg "__name__").getD .none) g j) (.own 0)) a=Φ o:=λa o e=>by rw[zad (zai e hn)];exact e
  refine q _ _ _ I2 ⟨_,j,g,x,vs,t,zaf,st _ _ T,a3,a4⟩ ?_ ⟨λa o _ e=>st a o e,λps' e=>⟨#[],by rw[st _ _ e];simp⟩⟩;exact TabIn.up ⟨w,k,N,h3⟩ (by rw[st _ _ k,k]) λb o u e=>st _ _ e
 |none=>
  have hgP:mainGlobals≠P:=λz=>by let⟨o,es,ep,e,hd,_⟩:=hg;rw[z,hP]at e;cases e;cases hd
  refine PySem.W.kla_makeFunction M I.ok.glob hg p C hP N hf hgP i λg j h U hx m A hrec htb=>?_;let⟨c2,x,vs,t,e2,hoc,hd,hv⟩:=hrec;cases e2;generalize hfo:kla_obj "<lambda>" (X.env.qual ++ "<lambda>") params body scope [] ((X.mg "__name__").getD .none) g j=B;have hfr:(h.push B).get? h.objs.size=Φ B:=by rw[<-hfo];exact Ζ _ rfl
  have hfn:H h.objs.size=Ψ:=I.hok.fresh (le_trans m (le_of_lt A));have hcn:H g=Ψ:=I.hok.fresh m;have nPc:P≠g:=ne_of_lt (lt_of_lt_of_le O m);have nPf:P≠h.objs.size:=ne_of_lt (lt_trans (lt_of_lt_of_le O m) A);have ncf:g≠h.objs.size:=ne_of_lt A;have st:∀a o,a≠P->H a=Φ o->upd (upd (upd H P (.tbl (w ++ #[rawInt lpos.line,rawInt lpos.col,.ref g]))) g (.frz x (.own 0))) h.objs.size (.frz B (.own 0)) a=Φ o:=λa o n e=>by rw[zad (zai e hfn),zad (zai e hcn),zad n];exact e
  have G:upd (upd (upd H P (.tbl (w ++ #[rawInt lpos.line,rawInt lpos.col,.ref g]))) g (.frz x (.own 0))) h.objs.size (.frz B (.own 0)) P=Φ (.tbl (w ++ #[rawInt lpos.line,rawInt lpos.col,.ref g])):=by rw[zad nPf,zad nPc,zaf]
  have atC:upd (upd (upd H P (.tbl (w ++ #[rawInt lpos.line,rawInt lpos.col,.ref g]))) g (.frz x (.own 0))) h.objs.size (.frz B (.own 0)) g=Φ (.frz x (.own 0)):=by rw[zad ncf,zaf]
  have J:∀a,H a=Ψ->a≠P:=λa e z=>by rw[z,k]at e;cases e
  have l:∀b o,b≠P->s.heap.get? b=Φ o->(h.push B).get? b=Φ o:=λb o n e=>Λ _ (hx b o n e);have inv:Inv X pins σ (upd (upd (upd H P (.tbl (w ++ #[rawInt lpos.line,rawInt lpos.col,.ref g]))) g (.frz x (.own 0))) h.objs.size (.frz B (.own 0))) {s with heap:=h.push B,toks:=U}:=by refine I.call (g':=s.gens) (t':=U) (d':=s.drawn) (ch:=[]) ⟨λb o e n _ _=>l b o (J b n) e,λb o e n _ _=>⟨o.slots,l b o (J b n) e⟩,λb o e n _=>?_,λb o e _=>?_,λb xs e=>?_,λb o u e=>?_,λb ps' e=>?_⟩ ?_ I.bare (λb i=>by cases i);have i:=Η e;rw[zad (ne_of_lt (lt_trans (lt_of_lt_of_le i m) A)),zad (ne_of_lt (lt_of_lt_of_le i m)),zad (J b n)];exact n;by_cases z:b=P;subst z;exact⟨_,Λ _ htb⟩;exact⟨o,l b o z e⟩;exact st b _ (λz=>by rw[z,k]at e;cases e) e;exact st b _ (λz=>by rw[z,k]at e;cases e) e;by_cases z:b=P;subst z;rw[k]at e;cases e;exact⟨_,G⟩;exact⟨#[],by rw[st b _ z e];simp⟩;intro a u e;by_cases zf:a=h.objs.size;subst zf;rw[zaf]at e;cases e;exact⟨hfr,_,hfr⟩;rw[zad zf]at e;by_cases zc:a=g;subst zc;rw[zaf]at e;cases e;exact⟨Λ _ hoc,_,Λ _ hoc⟩;rw[zad zc]at e;by_cases zp:a=P;subst zp;rw[zaf]at e;cases e;exact Λ _ htb;rw[zad zp]at e;refine(I.hok a u e).stay (λb o i r=>l b o ?_ r) (λb r=>st b _ (λz=>by rw[z,k]at r;cases r) r) λb xs r=>st b _ (λz=>by rw[z,k]at r;cases r) r;rcases i with rfl|i;exact zp;intro z;rw[z,k]at i;cases i
  refine q _ _ _ inv ⟨_,j,g,x,vs,t,by rw[zaf,<-hfo],atC,hd,hv⟩ ?_ ⟨λa o n e=>st a o n e,λps' e=>by rw[k]at e;cases e;exact⟨_,G⟩⟩;refine⟨_,G,?_,λpos v e=>?_⟩;have:=TriplesOk_snoc lpos.line lpos.col (.ref g) w.toList N;simpa using this;have r:codeAmong pos (w.toList++[rawInt lpos.line,rawInt lpos.col,.ref g])=Φ v:=by simpa using e
  rcases zcZ N r with z|z;let⟨d,od,ws,u,a1,T,a3⟩:=h3 pos v z;exact⟨d,od,ws,u,a1,st _ _ (λy=>by rw[y,k]at T;cases T) T,a3⟩;exact⟨g,x,vs,t,z,atC,hd,hv⟩
end
abbrev oneK(k:VK)(vs:List V)(H:Hp):Prop:=match vs with | [w]=>k w H|_=>False
def zdC(h:oneK k vs H):∃w,vs=[w]/\k w H:=by unfold oneK at h;split at h;exact⟨_,rfl,h⟩;exact h.elim
abbrev tLam(q:Str)(a:Arguments)(body:Expr)(scope:Scope):TE:=λb H Q=>TB H/\∀f H',LamAt H' f "<lambda>" q a body scope->Ext [] H [] H'->Q (.ref f) H'
section
variable{X:Cx}{o:Expr}{p apos cpos kpos lpos pos:Pos}{td:TE}{c P:Addr}{params:Arguments}{body:Expr}{scope:Scope}
def zoK(mk:Maker X c P)(a:defaultsOf params X.env=([],[]))(d:closureFor scope X.env=pure []):PE X (.Lambda params body scope lpos) (tLam (X.env.qual ++ "<lambda>") params body scope):=by intro i s l H Q I h;let⟨m,j,_⟩:=id (h.1 _ mk.mem);refine znH I mk.bm mk.code mk.hd (h.1 _ mk.mem) a d λf H' n J L T S=>⟨.ref f,H',J,rfl,h.2 f H' L (S.ext j λp g=>?_)⟩;by_cases z:p.1=P;rw[mk.one p g z,z];exact T;let⟨q,k,_⟩:=id (h.1 p g);exact(h.1 p g).up ((S.rest _ _ z k).trans k.symm) λb o u e=>S.rest b _ (λy=>by rw[y]at e;rw[j]at e;cases e) e
end
end R
namespace R
open PySem PySem.Spec PyProof.Rows L2
section
variable{ρ:Type}{lt:ρ->ρ->Prop}[DecidableRel lt]
abbrev rkG(lt:ρ->ρ->Prop)[DecidableRel lt](rows:List ρ)(k:ρ):Int:=((rows.filter λx=>decide (lt x k)).length:Nat)
structure Ord(lt:ρ->ρ->Prop):Prop where
 irr:∀r,¬lt r r
 tra:∀{a b c},lt a b->lt b c->lt a c
 tot:∀{a b},a≠b->lt a b\/lt b a
def ziq(o:Ord lt)(c:a∈rows)(h:lt a b):rkG lt rows a<rkG lt rows b:=by unfold rkG;have:=zgU (p:=λx=>decide (lt x a)) (q:=λx=>decide (lt x b)) (l:=rows) (a:=a) (λx _ d=>decide_eq_true (o.tra (of_decide_eq_true d) h)) c (decide_eq_false (o.irr a)) (decide_eq_true h);lia
def zky(o:Ord lt)(c:a∈rows)(d:b∈rows):lt a b↔rkG lt rows a<rkG lt rows b:=by refine⟨ziq o c,λh=>?_⟩;by_cases e:a=b;subst e;lia;rcases o.tot e with z|z;exact z;have:=ziq o d z;lia
def zp9(o:Ord lt)(c:a∈rows)(d:b∈rows)(h:rkG lt rows a=rkG lt rows b):a=b:=by by_cases e:a=b;exact e;rcases o.tot e with z|z;have:=ziq o c z;lia;have:=ziq o d z;lia
end
variable[Mks]
section
variable{ρ:Type}[Inhabited ρ]{lt:ρ->ρ->Prop}[DecidableRel lt]{RA KA:Hp->Addr->ρ->Prop}{κ:SortKind}
variable{X:Cx}{pins:List (Addr×Obj)}{σ:L2.St}{H:Hp}{s:Β}{A':ϐ}{f D kS:Addr}{rows:List ρ}
structure SortK(X:Cx)(pins:List (Addr×Obj))(σ:L2.St)(A':ϐ)(H:Hp)(f:Addr)(RA KA:Hp->Addr->ρ->Prop)(κ:SortKind)(lt:ρ->ρ->Prop)[DecidableRel lt]:Prop where
 upR:∀{H1 H2 a r},Kp H1 H2->RA H1 a r->RA H2 a r
 upK:∀{H1 H2 b r},Kp H1 H2->KA H1 b r->KA H2 b r
 call:∀{H1 s1 a r},Inv X pins σ H1 s1->Ext [] H [] H1->RA H1 a r->wpAny (model X.prog X.w) A' (call (.ref f) [.ref a]) (λy s'=>∃b H',y=.ref b/\Inv X pins σ H' s'/\KA H' b r/\Ext [] H1 [] H'/\Un (frs X.stack) [] H1 H' s1.heap s'.heap) (λ_ _=>False) s1
 kind:∀{H1 s1}{ks:List Ξ}{Q:SortKind->Β->Prop}{E:Ξ->Β->Prop},Inv X pins σ H1 s1->(∀k∈ks,∃b r,k=Ξ.ref b/\KA H1 b r)->1<=ks.length->Q κ s1->wpAny (model X.prog X.w) A' (keyKind' ks.toArray) Q E s1
 less:∀{H1 s1 b c r r'}{Q:Bool->Β->Prop}{E:Ξ->Β->Prop},Inv X pins σ H1 s1->KA H1 b r->KA H1 c r'->Q (decide (lt r r')) s1->wpAny (model X.prog X.w) A' (keyLt' κ (.ref b) (.ref c)) Q E s1
 ord:Ord lt
structure KeyG(KA:Hp->Addr->ρ->Prop)(rows:List ρ)(H:Hp)(ks:List Ξ)(i:Nat):Prop where
 len:ks.length=i
 at_:∀(j:Nat)(k:Ξ),ks[j]?=Φ k->∃(b:Addr) (r:ρ),rows[j]?=Φ r/\k=Ξ.ref b/\KA H b r
def KeyG.snoc(e:SortK X pins σ A' H f RA KA κ lt)(K:KeyG KA rows g ks i)(x:Ext [] g [] d)(l:rows[i]?=Φ r)(m:KA d b r):KeyG KA rows d (ks++[.ref b]) (i+1):=by
 refine⟨by simp[K.len],λj k a=>?_⟩;by_cases h:j<ks.length;rw[getElem?_append_left h]at a;let⟨c,q,n,o,p⟩:=K.at_ j k a;exact⟨c,q,n,o,e.upK x.kp p⟩;rw[getElem?_append_right (by lia)]at a;have:j=ks.length:=by have:=(Α.mp a).1;simp at this;lia
 subst this;simp at a;exact⟨b,r,by rw[K.len];exact l,a.symm,m⟩
structure KJG(KA:Hp->Addr->ρ->Prop)(X:Cx)(pins:List (Addr×Obj))(σ:L2.St)(H:Hp)(D kS:Addr)(e1:Nat)(rows:List ρ)(i:Nat)(s':Β):Prop where
 ex:∃H' ks e,Inv X pins σ H' s'/\Ext [] H [] H'/\H' D=Ψ/\H' kS=Ψ/\zf9 s' D [] e1/\zf9 s' kS ks e/\KeyG KA rows H' ks i
def znJ(h:SortK X pins σ A' H f RA KA κ lt){e1 i:Nat}{a:Addr}{r:ρ}(oD:Own X pins D)(u:Own X pins kS)(E:D≠kS)(G:RA H a r)(j:rows[i]?=Φ r)(T:i<64){s':Β}(J:KJG KA X pins σ H D kS e1 rows i s'){items:Array Ξ} :
  wpAny (model X.prog X.w) A' (do
   match <-(call (.ref f) [.ref a]).attempt with
   |.ok k=>Builtin.List.listUpdate (.ref kS) (·.push k);pure (ForInStep.yield PUnit.unit)| .error e=>
    rule "list.sort.key-raised"
    let c <-Builtin.List.listItems (.ref kS)
    Builtin.List.listUpdate (.ref kS) λ_=>#[]
    letGo c.toList.reverse [e]
    Builtin.List.listUpdate (.ref D) λ_=>items;throw e) (λq l=>q=.yield ⟨⟩/\KJG KA X pins σ H D kS e1 rows (i+1) l) (λ_ _=>False) s':=by
 let⟨U,m,e,I,x,v,n,lD,p,w⟩:=J.ex;refine Θ (wpAny_attempt (ύ (h.call I x (h.upR x.kp G)) ?_ λ_ _ z=>z.elim));rintro y L ⟨b,M,rfl,A,t,B,d⟩;have N:=d.keep D _ lD v (oD.stk I) (by simp);have C:=d.keep kS _ p n (u.stk I) (by simp);have Y:m.length=i:=w.len;show wpAny _ _ (Builtin.List.listUpdate (.ref kS) (·.push (.ref b))>>=λ_=>pure (ForInStep.yield PUnit.unit)) _ _ L;refine Θ (listUpdate_at C rfl (Ω ⟨rfl,?_⟩) (by rw[size_toArray,Υ];lia) (by rw[Array.size_push,size_toArray,Υ];lia));let⟨O,Q⟩:=zfw (us:=m++[.ref b]) C (·.push (.ref b)) (by simp);refine⟨M,m++[.ref b],O,?_,x.trans B,d.free D _ lD v (by simp),d.free kS _ p n (by simp),zcl E N,Q,w.snoc h B j t⟩;exact zaG A (ch:=[kS]) (λb g=>by rw[mem_singleton.mp g];exact u) (λb g=>by rw[mem_singleton.mp g];exact d.free kS _ p n (by simp)) (λb o g q=>zcl (by simpa using g) q) A.bare
def zrY{st}(d:(arrOf st).map (·.2)=out.toArray)(hz:out.length<64)(l:i<64)(m:failedOf st=Ψ)(oD:Own X pins D)(n:Own X pins kS)(p:D≠kS)(J:KJG KA X pins σ H D kS j rows i s)(h:∀s',KEnd X pins σ H D out s'->P (.done (.ret .none)) s'):wpAny (model X.prog X.w) A' (ksk_tail D Δ j (.ref kS) st) P E s:=by
 let⟨r,t,e,I,x,k,u,lD,v,w⟩:=J.ex;have B:t.length<64:=by rw[w.len];exact l
 have y:=zaG (h':=s.heap.update kS (Obj.mapSeq λ_=>#[])) (g':=s.gens) (t':=s.toks) (d':=s.drawn) (ch:=[kS]) I (λb a=>by rw[mem_singleton.mp a];exact n) (λb a=>by rw[mem_singleton.mp a];exact u) (λb o a q=>zcl (by simpa using a) q) I.bare;have c:zf9 {s with heap:=s.heap.update kS (Obj.mapSeq λ_=>#[])} D [] j:=zcl p lD;let⟨z,g⟩:=zfw (us:=out) c (λ_=>out.toArray) rfl;have A:=zaG (h':=(s.heap.update kS (Obj.mapSeq λ_=>#[])).update D (Obj.mapSeq λ_=>out.toArray)) (g':=s.gens) (t':=s.toks) (d':=s.drawn) (ch:=[D]) y (λb a=>by rw[mem_singleton.mp a];exact oD) (λb a=>by rw[mem_singleton.mp a];exact k) (λb o a q=>zcl (by simpa using a) q) I.bare;unfold ksk_tail;rw[d,m];refine Θ (listUpdate_at v rfl (Θ (wpAny_letGo (Θ (seqEpoch_at c rfl (Θ (listUpdate_at c rfl ?_ (by simp) (by simp![Ρ,if_false,size_toArray,Υ];lia))))))) (by rw[size_toArray,Υ];lia) (by simp));simp![bne_self_eq_false,Ρ,if_false];exact Ω (h _ ⟨r,z,A,x,k,g⟩)
structure PlcG(lt:ρ->ρ->Prop)(rows:List ρ)(p:List Nat):Prop where
 lt':∀i∈p,i<rows.length
 asc:(p.map λi=>rows.getD i default).Pairwise lt
 perm:p.Perm (List.range rows.length)
def endG(u:SortK X pins σ A' H f RA KA κ lt){vs:List Ξ}(L:vs.length=rows.length)(q:rows.length<64)(nd:rows.Nodup)(oD:Own X pins D)(oK:Own X pins kS)(ne:D≠kS)(J:KJG KA X pins σ H D kS e1 rows rows.length s)(h:∀p s',PlcG lt rows p->KEnd X pins σ H D (p.map λi=>vs.getD i Ξ.none) s'->P (.done (.ret .none)) s'):
  wpAny (model X.prog X.w) A' (Builtin.List.listItems (.ref kS)>>=λv=>ksk_end D Δ vs.toArray e1 (.ref kS) v) P E s:=by
 let⟨H1,n,e,I,x,d1,k1,lD,lK,M⟩:=id J.ex;refine Θ (listItems_at lK rfl ?_);unfold ksk_end;simp![Ρ,if_false];have o:n.length=vs.length:=by rw[M.len,L]
 by_cases t:vs.toArray.size<2;rw[if_pos t,if_pos t];have w:rows.length<2:=by rw[<-L];simpa using t
 refine Θ (Ω (Θ ?_));rw[StateT.run_pure];have eo:(arrOf (SortSt.mk' general' (n.toArray.zip vs.toArray) #[] 7 Ψ)).map (·.2)=vs.toArray:=by show((n.toArray.zip vs.toArray).map (·.2))=vs.toArray;apply Array.toList_inj.mp;rw[Array.toList_map,ksk_zip];show(n.zip vs).map Prod.snd=vs;exact List.map_snd_zip (by lia)
 have O:((List.range rows.length).map λi=>vs.getD i Ξ.none)=vs:=by apply List.ext_getElem;simp[L];intro i g1 g2;simp[g2]
 refine Ω (zrY (i:=rows.length) eo (by lia) q rfl oD oK ne J λs' K=>h (List.range rows.length) s' ⟨λi d=>mem_range.mp d,?_,List.Perm.refl _⟩ (by rw[O];exact K));rw[pairwise_map,List.pairwise_iff_getElem];intro i j d l y;simp at d l;lia;have w:2<=vs.length:=by simpa using t
 rw[if_neg t,if_neg t];have hk:∀k∈n,∃b r,k=Ξ.ref b/\KA H1 b r:=λk hm=>by let⟨j,l⟩:=List.mem_iff_getElem?.mp hm;let⟨b,r,_,N,T⟩:=M.at_ j k l;exact⟨b,_,N,T⟩
 refine Θ (u.kind I hk (by lia) ?_);refine Θ (ύ (PySem.W.kat_run (Q:=λm s'=>∃p:Array Nat,GP rows.length p/\AscTo (λi=>rkG lt rows (rows.getD i default)) p rows.length/\s'=s/\arrOf m=p.map (PySem.W.kas_item (n.toArray.zip vs.toArray))/\failedOf m=Ψ)
  (G:=λp s'=>GP rows.length p/\AscTo (λi=>rkG lt rows (rows.getD i default)) p rows.length/\s'=s) o w (by lia) (λp m s' _ a2 a3 U=>⟨p,U.1,U.2.1,U.2.2,a2,a3⟩) ?_) ?_ λ_ _ z=>z)
 rw[L];refine zpB (r:=λi=>rkG lt rows (rows.getD i default)) (λi j d l e=>?_) (λi j C d l Y=>?_) (by lia) λp g a=>⟨g,a,rfl⟩;have:=zp9 u.ord (mem_of_getElem? (getD_mem default d)) (mem_of_getElem? (getD_mem default l)) e;have N:=getD_mem (default:ρ) d;have T:=getD_mem (default:ρ) l;rw[this,<-T]at N;exact(List.getElem?_inj d nd).mp N
 . let⟨b,r,b1,b2,b3⟩:=M.at_ i _ (getD_mem Ξ.none (by lia));let⟨c,r',c1,c2,c3⟩:=M.at_ j _ (getD_mem Ξ.none (by lia));have O:rows.getD i default=r:=by rw[ϋ,b1];rfl
   have er':rows.getD j default=r':=by rw[ϋ,c1];rfl
   show wpAny (model X.prog X.w) A' (keyLt' κ (n.getD i Ξ.none) (n.getD j Ξ.none)) C (λ_ _=>False) s;rw[b2,c2];refine u.less I b3 c3 ?_;have:decide (lt r r')=decide (rkG lt rows r<rkG lt rows r'):=by apply Bool.eq_iff_iff.mpr;rw[decide_eq_true_eq,decide_eq_true_eq];exact zky u.ord (mem_of_getElem? b1) (mem_of_getElem? c1)
   rw[this]
   (try dsimp only at Y)
   rw[O,er']at Y;exact Y
 rintro⟨⟨⟩,m⟩ s' ⟨p,g,a,rfl,ar,fl⟩;refine zrY (i:=rows.length) (PySem.W.kat_snds o ar) ?_ q fl oD oK ne J λs' K=>h p.toList s' ⟨λi d=>mem_range.mp (g.list.mem_iff.mp d),?_,g.list⟩ K;rw[length_map,length_toList,g.size];exact q;rw[pairwise_map,List.pairwise_iff_getElem];intro i j d l y;rw[length_toList,g.size]at d l;have A:i<p.size:=by rw[g.size];exact d
 have B:j<p.size:=by rw[g.size];exact l
 have m1:rows.getD p.toList[i] default∈rows:=mem_of_getElem? (getD_mem default (by have:=g.lt d;rw[zbs p A]at this;exact this));have m2:rows.getD p.toList[j] default∈rows:=mem_of_getElem? (getD_mem default (by have:=g.lt l;rw[zbs p B]at this;exact this));have:=a i j y l;unfold kAt at this;rw[zbs p A,zbs p B]at this;exact(zky u.ord m1 m2).mpr this
def zuw{as:List Addr}(l:SortK X pins σ A' H f RA KA κ lt)(m:as.length=rows.length)(e:rows.length<64)(q:rows.Nodup)(oD:Own X pins D)(n:Own X pins kS)(o:D≠kS)(t:∀(j:Nat)(a:Addr),as[j]?=Φ a->∃r:ρ,rows[j]?=Φ r/\RA H a r)(J:KJG KA X pins σ H D kS e1 rows 0 s)(h:∀p s',PlcG lt rows p->KEnd X pins σ H D (p.map λi=>(as.map Ξ.ref).getD i Ξ.none) s'->P (.done (.ret .none)) s'):
  wpAny (model X.prog X.w) A' (ksk_rest D (.ref f) Δ (as.map Ξ.ref).toArray e1 (.ref kS)) P E s:=by
 unfold ksk_rest;refine Θ (wpAny_rule ?_);rw[List.forIn_toArray];refine Θ (ksk_fold (λi s'=>KJG KA X pins σ H D kS e1 rows i s') (as.map Ξ.ref) 0 s J (λj v s' b c=>?_) λs' c=>?_);rw[getElem?_map]at b;cases g:as[j]? with
 |none=>rw[g]at b;exact nS b
 |some a=>rw[g]at b;cases b;let⟨r,d,k⟩:=t j a g;have u:=(Α.mp d).1;rw[zero_add]at c⊢;exact ύ (znJ l oD n o k d (by lia) c (items:=(as.map Ξ.ref).toArray)) (λ_ _ z=>z) λ_ _ z=>z.elim
 rw[zero_add,length_map,m]at c;exact endG l (vs:=as.map Ξ.ref) (by simpa using m) e q oD n o c h
def zrX{as:List Addr}(I:Inv X pins σ H s)(w:SortK X pins σ A' H f RA KA κ lt)(l:as.length=rows.length)(d:rows.length<64)(x:rows.Nodup)(oD:Own X pins D)(m:H D=Ψ)(lD:zf9 s D (as.map Ξ.ref) G)(y:∀(j:Nat)(a:Addr),as[j]?=Φ a->∃r:ρ,rows[j]?=Φ r/\RA H a r)(h:∀p s',PlcG lt rows p->KEnd X pins σ H D (p.map λi=>(as.map Ξ.ref).getD i Ξ.none) s'->P (.done (.ret .none)) s'):wpAny (model X.prog X.w) A' (ksk_tree D (.ref f) Δ) P E s:=by
 let⟨e1,n⟩:=zfw (us:=[]) lD (λ_=>#[]) rfl;have hD:D<s.heap.objs.size:=Η lD;have z:=zaG (h':=s.heap.update D (Obj.mapSeq λ_=>#[])) (g':=s.gens) (t':=s.toks) (d':=s.drawn) (ch:=[D]) I (λb c=>by rw[mem_singleton.mp c];exact oD) (λb c=>by rw[mem_singleton.mp c];exact m) (λb o c q=>zcl (by simpa using c) q) I.bare;have t:∀(e u:Obj) b o,(s.heap.update D (Obj.mapSeq λ_=>#[])).get? b=Φ o->(((s.heap.update D (Obj.mapSeq λ_=>#[])).push e).push u).get? b=Φ o:=λe u b o q=>Λ _ (Λ _ q);have g:∀e:Obj,((s.heap.update D (Obj.mapSeq λ_=>#[])).push e).objs.size=s.heap.objs.size+1:=λe=>by rw[size_push',Heap.size_update]
 have v:(as.map Ξ.ref).length<64:=by rw[length_map,l];exact d
 unfold ksk_tree;refine Θ (listItems_at lD rfl (Θ (listUpdate_at lD rfl (Θ (seqEpoch_at n rfl (Θ (wpAny_newTuple (Θ (wpAny_newList (ϝ ?_) (zero_le _))) (by rw[Υ];show(as.map Ξ.ref).length<=_;lia))))) (by rw[size_toArray,Υ];lia) (zero_le _))));have A:=zaG (h':=((s.heap.update D (Obj.mapSeq λ_=>#[])).push (seqObj "tuple" (as.map Ξ.ref).toArray 0)).push (seqObj "list" #[] 0)) (g':=s.gens) (t':=s.toks) (d':=s.drawn) (ch:=[]) z (λb c=>by cases c) (λb c=>by cases c) (λb o _ q=>t _ _ b o q) I.bare;have B:Own X pins ((s.heap.update D (Obj.mapSeq λ_=>#[])).push (seqObj "tuple" (as.map Ξ.ref).toArray 0)).objs.size:=by rw[g];exact Own.fresh I (le_succ _)
 refine zuw (kS:=((s.heap.update D (Obj.mapSeq λ_=>#[])).push (seqObj "tuple" (as.map Ξ.ref).toArray 0)).objs.size) w l d x oD B (by rw[g];exact ne_of_lt (ϣ hD)) y ?_ h;exact⟨H,[],0,A,Ext.refl _ _,m,I.hok.fresh (by rw[g];exact le_succ _),t _ _ _ _ n,Ζ _ rfl,rfl,λj k C=>by simp at C⟩
end
end R
namespace R
open PySem PySem.Spec PyProof.Rows L2
section
variable{prog:ϊ}{w:ό}{A:ϐ}{E:Ξ->Β->Prop}{s:Β}
abbrev IsPr(prog:ϊ)(w:ό)(h:Heap)(k:K3)(a:Addr):Prop:=k.1=0/\∃o u b n,h.get? a=Φ o/\o.cls=.type "tuple"/\o.data=.seq #[.ref b,.int k.2.2 u] n/\IsTupleKey (zar prog w) h (k.2.1.map Sum.inl) b
def zuz(o:A.units<cLine)(t:IsPr prog w s.heap x a)(u:IsPr prog w s.heap y b)(q:Q (decide (Lt3 x y)) s):
  wpAny (model prog w) A (keyLt' (tuples' Δ) (.ref a) (.ref b)) Q E s:=by
 let⟨p,I,J,b1,L,l,_,i,c⟩:=t;let⟨r,M,N,b2,O,m,_,j,d⟩:=u;let⟨T,e,f⟩:=x;let⟨U,g,h⟩:=y;dsimp only at i j c d p r;subst p r;refine PySem.W.kat_lt l i m j (kat_cons (wpAny_eqBool_tuple o c d ?_));by_cases k:e=g;rw[show decide ((e.map Sum.inl:List Key)=g.map Sum.inl)=Γ from decide_eq_true (by rw[k])];refine PySem.W.kat_yes (kat_cons (wpAny_eqBool_int ?_));by_cases n:f=h;rw[show(f==h)=Γ by simp[n]];refine PySem.W.kat_yes (PySem.W.kat_nil ?_);rw[decide_eq_false (by subst k n;exact zco _)]at q;exact q;rw[show(f==h)=Δ by simp[n]];refine kat_no (kat_one _ _ (wpAny_lt_int ?_));have:decide (Lt3 (0,e,f) (0,g,h))=decide (f<h):=by apply Bool.eq_iff_iff.mpr;rw[decide_eq_true_eq,decide_eq_true_eq];subst k;unfold Lt3;dsimp only;rw[zdd];simp
 rw[this]at q;exact q;rw[show decide ((e.map Sum.inl:List Key)=g.map Sum.inl)=Δ from decide_eq_false (λz=>k (zhS z))];let⟨Y,v,B⟩:=zj7 c;let⟨i2,C,G⟩:=zj7 d;refine kat_no (kat_one _ _ (HT.lt_tupInts v C B G o ?_));have:decide (Lt3 (0,e,f) (0,g,h))=HT.lexLt e g:=by rw[<-zlk];apply Bool.eq_iff_iff.mpr;rw[decide_eq_true_eq];unfold Lt3;dsimp only;simp[k]
 rw[this]at q;exact q
def zkV:∀{vs:List Ξ},(∀v∈vs,∃c k,v=Ξ.ref c/\IsPr prog w h k c)->∃a:List Ξ,KatTups h vs a/\a.length=vs.length/\∀v∈a,∃(b:Addr) (ks:List Key),v=Ξ.ref b/\IsTupleKey (zar prog w) h ks b
 | [],_=>⟨[],KatTups.nil,rfl,λv h=>by cases h⟩| v::vs,e=>by let⟨c,k,rfl,z,o,u,b,n,f,g,i,j⟩:=e v (by simp);let⟨a,l,m,p⟩:=zkV (vs:=vs) λx q=>e x (by simp[q]);refine⟨.ref b::a,KatTups.cons f g i rfl l,by simp[m],λv d=>?_⟩;rcases mem_cons.mp d with rfl|d;exact⟨b,_,rfl,j⟩;exact p v d
def zqq{vs:List Ξ}(d:∀v∈vs,∃c k,v=Ξ.ref c/\IsPr prog w s.heap k c)(j:1<=vs.length)(q:Q (tuples' Δ) s):wpAny (model prog w) A (keyKind' vs.toArray) Q E s:=by let⟨l,e,m,f⟩:=zkV d;refine PySem.W.kat_kind (T:=.type "tuple") e (by lia) (λv g=>?_) rfl q;let⟨b,p,rfl,o,a,n,h,i,r,t⟩:=f v g;have:Looks (model prog w) s.heap (typeOf (.ref b)) o.cls:=(Looks.ld h).andThen .now;rw[i]at this;exact this
end
abbrev Key2(H:Hp)(c:Addr)(k:K3):Prop:=k.1=0/\∃b,H c=Φ (.tup [.ref b,.int k.2.2])/\H b=Φ (.tup (k.2.1.map V.int))
abbrev Let2(H:Hp)(a:Addr)(k:K3):Prop:=k.1=0/\∃t b w,H a=Φ (.tup [t,.ref b,.int k.2.2,w])/\H b=Φ (.tup (k.2.1.map V.int))
def zhO(ok:HOk P w H h)(e:Key2 H c k):IsPr P w h k c:=by let⟨z,b,f,g⟩:=e;let⟨_,i,d,o,j,l,n,m⟩:=(show ObjOk P w H h c (.tup _) from ok c _ f);cases d with| @cons _ p _ s q d=>cases d with| @cons _ t _ v r d=>cases d;cases(show p=Ξ.ref b from q);let⟨u,rfl⟩:=r;refine⟨z,o,u,b,n,j,l,m,?_⟩;have:=zgJ (ks:=k.2.1.map Sum.inl) ok (a:=b) (by rw[map_map];exact g);exact this
variable[Mks]
structure KeyBody(body:Expr):Prop where
 ex:∃p1 p2 p3 p4 p5 j1 j2,body=.Subscript (.Name "letter" p1) (.Slice (Φ (.Constant (.int 1) j1 p2)) (Φ (.Constant (.int 3) j2 p3)) Ψ p4) p5
section
variable{X:Cx}{pins:List (Addr×Obj)}{σ:L2.St}{H:Hp}{s:Β}{A':ϐ}{f:Addr}{name qual:Str}{params:Arguments}{body:Expr}{scope:Scope}
def znE(I:Inv X pins σ H s)(A:Room 2 A')(B:Env0 X.prog X.w X.K X.mg X.base A' X.stack s H)(L:LamAt H f name qual params body scope)(hs:FnScope ["letter"] ["letter"] scope)(C:∀(d G ct u:Ξ),bindArgs (kla_fn name qual params body scope [] d G ct) ⟨[u],[]⟩=pure [(("letter":Str),u)])(J:KeyBody body)(M:Let2 H a k):
  wpAny (model X.prog X.w) A' (call (.ref f) [.ref a]) (λy s'=>∃b H',y=.ref b/\Inv X pins σ H' s'/\Key2 H' b k/\Ext [] H [] H'/\Un (frs X.stack) [] H H' s.heap s'.heap) (λ_ _=>False) s:=by
 let⟨d,ct,j,N,vs,t,O,T,U,Y⟩:=L.ex;have of:=(I.hok f _ O).1;have oo:=(I.hok j _ T).1;let⟨p1,p2,p3,p4,p5,j1,j2,rfl⟩:=J.ex;let⟨z,tt,l,ww,e1,m⟩:=M;refine wpAny_call (Ϟ (zls (CX:=CX0) (E:=λ_ _ _=>False) (Q:=λw H'=>∃b,w=V.ref b/\Key2 H' b k/\Ext [] H [] H') (vs:=[V.ref a]) (us:=[.ref a]) hs A B of ⟨j,N,vs,t,rfl,oo,U,Y⟩
  (.of_eq (C d _ ct _)) (.cons (show L2.RelV (.ref a) (.ref a) from rfl) .nil) rfl (λhr'=>ziy zor (zbW (i:=0) (x:="letter") rfl ((hs.par "letter" (by simp)).elim .inl λq=>.inr (.inl q))) (zfz zgy) (zfz zgy)) ?_) λr s' q=>?_)
 refine⟨.ref a,rfl,1,rfl,3,rfl,a,[tt,.ref l,.int k.2.2,ww],rfl,.inl (Rd.of e1),(λz=>absurd (show(1:Nat)=0 from z.1) (by decide)),λp n=>⟨p,rfl,⟨z,l,zaf,?_⟩,zfX n⟩⟩;rw[zad (zai m n)];exact m;cases r with
 |error e=>exact q.elim| ok fl=>
  cases fl with
  |ret y=>
   let⟨w,H',os,c,o,g,v,b,rfl,h,x⟩:=q;cases y with
   |ref z=>
    have:z=b:=by simpa[L2.RelV]using v
    exact⟨b,H',by rw[this],I.call' os o g c (λb z=>absurd z (by simp)),h,x,o⟩
   |_=>simp[L2.RelV]at v
  |_=>exact q.elim
def ord3:Ord Lt3:=⟨zco,λh k=>zd4 h k,λh=>zgD h⟩
def zsf(d:Room 2 A')(g:∀H s,Inv X pins σ H s->Env0 X.prog X.w X.K X.mg X.base A' X.stack s H)(L:LamAt H f name qual params body scope)(hs:FnScope ["letter"] ["letter"] scope)
  (h:∀(i l ct u:Ξ),bindArgs (kla_fn name qual params body scope [] i l ct) ⟨[u],[]⟩=pure [(("letter":Str),u)]) (m:KeyBody body):SortK X pins σ A' H f Let2 Key2 (tuples' Δ) Lt3 where
 upR:=λk j=>(by let⟨z,t,b,w,a,c⟩:=j;exact ⟨z,t,b,w,k.tups _ _ a,k.tups _ _ c⟩)
 upK:=λk y=>(by let⟨z,b,a,c⟩:=y;exact ⟨z,b,k.tups _ _ a,k.tups _ _ c⟩)
 call:=λI x n=>znE I d (g _ _ I) (L.up x.kp) hs h m n
 kind:=λI o a q=>zqq (λv p=>let ⟨b,r,e,k⟩:=o v p;⟨b,r,e,zhO I.hok k⟩) a q
 less:=λI a c q=>zuz (by have:=d.un;lia) (zhO I.hok a) (zhO I.hok c) q
 ord:=ord3
end
section
variable{X:Cx}{pins:List (Addr×Obj)}{σ:L2.St}{H:Hp}{s:Β}{f a:Addr}{as:List Addr}{ks:List K3}{name qual:Str}{params:Arguments}{body:Expr}{scope:Scope}
structure Srd(X:Cx)(pins:List (Addr×Obj))(σ:L2.St)(H:Hp)(as:List Addr)(ks:List K3)(D:Addr)(s':Β):Prop where
 ex:∃(H':Hp) (p:List Nat),Inv X pins σ H' s'/\Ext [] H [] H'/\H D=Ψ/\PlcG Lt3 ks p/\H' D=Φ (.lst ((p.map λi=>as.getD i 0).map V.ref))
def zeI:∀{l:List Addr}{m:List Ξ},Vals (l.map V.ref) m->m=l.map Ξ.ref
 | [],_,h=>by cases h;rfl| x::l,_,h=>by cases h with|cons b c=>rw[Ν,<-zeI c,show _=Ξ.ref x from b]
def zdi:∀l:List Addr,Vals (l.map V.ref) (l.map Ξ.ref)
 | []=>.nil|_::l=>.cons rfl (zdi l)
def zjd(I:Inv X pins σ H s)(hh:X.A.handled=Ψ)(v:Room 2 X.A.in1.in1)(L:LamAt H f name qual params body scope)(hs:FnScope ["letter"] ["letter"] scope)(c:∀(w x ct u:Ξ),bindArgs (kla_fn name qual params body scope [] w x ct) ⟨[u],[]⟩=pure [(("letter":Str),u)])(y:KeyBody body)(z:SqL X.K H a (as.map V.ref))(A:as.length=ks.length)(n:ks.length<64)(B:ks.Nodup)(C:∀(j:Nat)(b:Addr),as[j]?=Φ b->∃k,ks[j]?=Φ k/\Let2 H b k)(q:∀D s',Srd X pins σ H as ks D s'->Q (.ref D) s'):
  wpAny (model X.prog X.w) X.A (call (.builtin "sorted") [.ref a] [(Str.ofString "key",.ref f)]) Q E s:=by
 let⟨G,M,g,hz⟩:=I.list z;have N:=zeI M;subst N;refine call_function_entry_kw kind_sorted plain_sorted entry_sorted (ksk_s1 _ _) ?_;unfold Builtin.«sorted»;refine Θ (m:=checkCount "sorted" 1 1 _) (Ω (Θ ?_));refine collect_list g.isList ?_ (by rw[length_map,Υ];lia);have O:∀b o,s.heap.get? b=Φ o->((s.heap.push (seqObj "list" #[] 0)).update s.heap.objs.size (Obj.mapSeq (·++(as.map Ξ.ref).toArray))).get? b=Φ o:=λb o e=>(Heap.get?_update_other _ _ (ne_of_gt (Η e))).trans (Λ _ e);have T:s.heap.objs.size<=((s.heap.push (seqObj "list" #[] 0)).update s.heap.objs.size (Obj.mapSeq (·++(as.map Ξ.ref).toArray))).objs.size:=by rw[Heap.size_update,ώ];exact le_succ _
 generalize(s.heap.push (seqObj "list" #[] 0)).update s.heap.objs.size (Obj.mapSeq (·++(as.map Ξ.ref).toArray))=d at *;refine Θ (wpAny_newList ?_ (by rw[length_map,Υ];lia));have r:Inv X pins σ H {s with heap:=d}:=zaG (g':=s.gens) (t':=s.toks) (d':=s.drawn) (ch:=[]) I (λb c=>by cases c) (λb c=>by cases c) (λb o _ e=>O b o e) I.bare;have U:Inv X pins σ H {s with heap:=d.push (seqObj "list" (as.map Ξ.ref).toArray 0)}:=zaG (s:={s with heap:=d}) (g':=s.gens) (t':=s.toks) (d':=s.drawn) (ch:=[]) r (λb c=>by cases c) (λb c=>by cases c) (λb o _ e=>Λ _ e) I.bare;have lD:zf9 {s with heap:=d.push (seqObj "list" (as.map Ξ.ref).toArray 0)} d.objs.size (as.map Ξ.ref) 0:=Ζ _ rfl;have oD:Own X pins d.objs.size:=Own.fresh r (le_refl _);have t:H d.objs.size=Ψ:=r.hok.fresh (le_refl _);refine Θ (ϝ (wpAny_call_entry_kw slot_list_sort ⟨_,lD,rfl⟩ entry_list_sort ?_ (ksk_l1 _ _)));refine zrX (D:=d.objs.size) (as:=as) (rows:=ks) U (zsf v (λH s J=>J.env0.in1.in1) L hs c y) A n B oD t lD C λp s' g Y=>⟨_,rfl,?_⟩;refine Ω ⟨_,rfl,q _ s' ?_⟩;let⟨H2,e,J,x2,h,l⟩:=Y.ex;have eo:(p.map λi=>(as.map Ξ.ref).getD i Ξ.none)=(p.map λi=>as.getD i 0).map Ξ.ref:=by
  rw[map_map];refine Τ λi hi=>?_;have:=g.lt' i hi;have gi:i<as.length:=by lia
  simp[gi]
 rw[eo]at l;have plen:p.length=ks.length:=by rw[g.perm.length_eq];simp
 exact⟨upd H2 d.objs.size (.lst ((p.map λi=>as.getD i 0).map V.ref)),p,zbH J oD h ⟨by simp[plen,Υ];lia,_,e,zdi _,l⟩,x2.trans (zfX h),t,g,zaf⟩
end
abbrev SrtK(K:Frag)(Q:VK)(w:V)(c:Hp):Prop:=∃(a:Addr) (e:List Addr) (d:List K3),w=.ref a/\SqL K c a (e.map V.ref)/\e.length=d.length/\d.length<64/\d.Nodup/\(∀(j:Nat)(b:Addr),e[j]?=Φ b->∃k,d[j]?=Φ k/\Let2 c b k)/\TB c/\
 ∀(D:Addr)(f:Hp)(p:List Nat),Ext [] c [] f->c D=Ψ->PlcG Lt3 d p->f D=Φ (.lst ((p.map λi=>e.getD i 0).map V.ref))->Q (.ref D) f
section
variable{X:Cx}{o:Expr}{p kpos lpos pos:Pos}{td:TE}{c P:Addr}{params:Arguments}{body:Expr}{scope:Scope}
def Let2.up(a:Kp H H')(h:Let2 H b k):Let2 H' b k:=let ⟨z,t,b,w,d,e⟩:=h;⟨z,t,b,w,a.tups _ _ d,a.tups _ _ e⟩
def SqL.up0{K}(x:Ext [] H [] H')(h:SqL K H a xs):SqL K H' a xs:=by rcases h with (h|⟨o,h⟩)|h;rcases(x.rest a _ (by simp) h).1 with z|⟨⟨_,z⟩,_⟩;exact .inl (.inl z);cases z;rcases(x.rest a _ (by simp) h).1 with z|⟨⟨_,z⟩,_⟩;exact .inl (.inr ⟨o,z⟩);cases z;exact .inr h
def zqv(E:PE X o td)(g:zao o=Γ)(G:Gl X "sorted")(J:X.mg "sorted"=Ψ)(A:Room 2 X.A.in1.in1)(mk:Maker X c P)(i:defaultsOf params X.env=([],[]))(n:closureFor scope X.env=pure [])(hs:FnScope ["letter"] ["letter"] scope)
  (M:∀(N O ct u:Ξ),bindArgs (kla_fn "<lambda>" (X.env.qual ++ "<lambda>") params body scope [] N O ct) ⟨[u],[]⟩=pure [(("letter":Str),u)]) (T:KeyBody body) :
  PE X (.Call (.Name "sorted" p) [o] [⟨Φ "key",.Lambda params body scope lpos,kpos⟩] pos) (λl H Q=>td l H (SrtK X.K Q)):=by
 intro d s l H Q I h;refine Ϙ (zdl I G J (by rfl:bootBuiltins "sorted"=Φ (.builtin "sorted")) ?_ (by decide) (by decide));have U:PA X [o] (zex td tNil):=zby E zeP (zan g _ _);have Y:PK X [⟨Φ "key",.Lambda params body scope lpos,kpos⟩] (zex (tLam (X.env.qual ++ "<lambda>") params body scope) tNil):=zkX (zoK mk i n) zoG;refine PyProof.Rows.callWith_builtin_kwB (by rw[zan g];rfl) rfl (PyProof.Rows.evalArgs_kw2 rfl (thn (U pos d s l H (oneK (SrtK X.K Q)) I h) λus s1 v=>?_) (zan g _ _));let⟨vs,q,I1,r1,k1⟩:=v;let⟨w,rfl,a,as,ks,ew,hq,hl,r,nd,t,tb,q1⟩:=zdC k1;subst ew;let⟨u,rfl,ru⟩:=Vals.one r1;obtain rfl:u=Ξ.ref a:=ru;refine thn (Y pos d s1 l q (oneK λB m=>∃f,B=.ref f/\LamAt m f "<lambda>" (X.env.qual ++ "<lambda>") params body scope/\Ext [] q [] m) I1 ⟨tb,λf m L S=>⟨f,rfl,L,S⟩⟩) λws s2 y=>?_;let⟨zs,m,I2,r2,k2⟩:=y;let⟨B,rfl,f,ef,L,st⟩:=zdC k2;subst ef;let⟨u2,rfl,x⟩:=Vals.one r2;obtain rfl:u2=Ξ.ref f:=x;refine zjd I2 A.hd A L hs M T (SqL.up0 st hq) hl r nd (λj b e=>let ⟨k,e1,e2⟩:=t j b e;⟨k,e1,e2.up st.kp⟩) λD s3 tl=>?_;let⟨C,p,I3,x3,dn,pl,dl⟩:=tl.ex;refine⟨.ref D,C,I3,rfl,q1 D C p (st.trans x3) ?_ pl dl⟩;cases e:q D with|none=>rfl| some o=>exfalso;have:=(st.rest D o (by simp) e).1;rw[dn]at this;rcases this with z|⟨_,_,z⟩<;>exact nS z
end
abbrev lamI(k:Int):Expr->Bool|.Constant (.int i) _ _=>decide (i=k)|_=>Δ
abbrev lamV:Expr->Bool|.Name x _=>decide (x="letter")|_=>Δ
abbrev lamS:Expr->Bool|.Slice (Φ a) (Φ b) Ψ _=>lamI 1 a&&lamI 3 b|_=>Δ
abbrev lamA:List Arg->Bool|[⟨a,Ψ,_⟩]=>decide (a="letter")|_=>Δ
abbrev lamB:Expr->Bool
 |.Lambda ⟨[],b,Ψ,[],[],Ψ,[]⟩ (.Subscript v s _) a _=>lamA b&&(lamV v&&(lamS s&&(decide (a.names=[(("letter":Str),NameKind.local)])&&(decide (a.kind=.function)&&(!a.isCoroutine&&!a.isGenerator)))))
 |_=>Δ
structure LamE(params:Arguments)(body:Expr)(scope:Scope):Prop where
 df:∀env,defaultsOf params env=([],[])
 cl:∀env,closureFor scope env=pure []
 sc:FnScope ["letter"] ["letter"] scope
 bd:∀(q:Str)(pm cd ct u:Ξ),bindArgs (kla_fn "<lambda>" q params body scope [] pm cd ct) ⟨[u],[]⟩=pure [(("letter":Str),u)]
 kb:KeyBody body
def lamJ{k:Int}{e:Expr}(h:lamI k e=Γ):∃a p,e=.Constant (.int k) a p:=by
 cases e with
 |Constant c a p=>
  cases c with
  |int i=>cases of_decide_eq_true h;exact⟨_,_,rfl⟩
  |_=>exact nB h
 |_=>exact nB h
def lamC{as:List Arg}(h:lamA as=Γ):∃p,as=[⟨"letter",Ψ,p⟩]:=by
 cases as with
 |nil=>exact nB h
 |cons a r=>
  let⟨a,n,p⟩:=a;cases r with
  |cons _ _=>cases n<;>exact nB h
  |nil=>
   cases n with
   |some _=>exact nB h
   |none=>cases of_decide_eq_true h;exact⟨_,rfl⟩
def lamW{e:Expr}(h:lamV e=Γ):∃p,e=.Name "letter" p:=by
 cases e with
 |Name x p=>cases of_decide_eq_true h;exact⟨_,rfl⟩
 |_=>exact nB h
def lamT{e:Expr}(h:lamS e=Γ):∃a b p,e=.Slice (Φ a) (Φ b) Ψ p/\lamI 1 a=Γ/\lamI 3 b=Γ:=by
 cases e with
 |Slice a b c p=>
  cases a with
  |none=>exact nB h
  |some a=>
  cases b with
  |none=>exact nB h
  |some b=>
  cases c with
  |some _=>exact nB h
  |none=>exact⟨_,_,_,rfl,(Ε _ _).mp h⟩
 |_=>exact nB h
def znI(h:lamB e=Γ):∃a body scope lpos,e=.Lambda a body scope lpos/\LamE a body scope:=by
 cases e with
 |Lambda g b scope p=>
  let⟨i,G,j,k,l,m,n⟩:=g
  cases i with
  |cons _ _=>cases h
  |nil=>
  cases j with
  |some _=>cases h
  |none=>
  cases k with
  |cons _ _=>cases h
  |nil=>
  cases l with
  |cons _ _=>cases h
  |nil=>
  cases m with
  |some _=>cases h
  |none=>
  cases n with
  |cons _ _=>cases h
  |nil=>
  cases b with
  |Subscript v s I=>
   let⟨o,h⟩:=(Ε _ _).mp h;let⟨r,h⟩:=(Ε _ _).mp h;let⟨t,h⟩:=(Ε _ _).mp h;simp![Ε,decide_eq_true_eq,ϟ]at h;let⟨c,w,z,A⟩:=h;let⟨_,rfl⟩:=lamW r;let⟨_,_,_,rfl,B,C⟩:=lamT t;let⟨_,_,rfl⟩:=lamJ B;let⟨_,_,rfl⟩:=lamJ C;let⟨_,rfl⟩:=lamC o;refine⟨_,_,scope,_,rfl,⟨λd=>rfl,λd=>?_,⟨w,z,A,by decide,rfl,λx E=>?_,λy f=>?_⟩,λq J L M u=>rfl,⟨_,_,_,_,_,_,_,rfl⟩⟩⟩;unfold closureFor;rw[c];rfl;rw[mem_singleton.mp E,c];exact .inl (by decide);rw[c]at f;rw[mem_singleton.mp f];decide
  |_=>cases h
 |_=>cases h
section
variable{K:Frag}{ι:List Addr}{H H2:Hp}{S:R.St}
def zgN:∀{ds:List D}{xs:List V}{p:List Int},RVs K ι H ds xs->zaD ds=Φ p->xs=p.map V.int
 | [],xs,p,r,e=>by cases(show xs=[] from r);simp[zaD]at e;subst e;rfl| d::ds,xs,p,r,e=>by
  let⟨v,c,rfl,a,b⟩:=r;unfold zaD at e;rw[Ϛ]at e;cases d with
  |int i=>
   cases e2:ds.mapM zed with
   |none=>rw[e2]at e;exact nS e
   |some q=>rw[e2]at e;cases e;rw[zgN b (show zaD ds=Φ q from e2),show v=.int i from a];rfl
  |_=>exact nS e
def ztt(r:RV K ι H d v)(e:zfL d=Φ k):∃a,v=.ref a/\Let2 H a k:=by
 unfold zfL at e;split at e;rename_i t f b w;cases e2:zaD f with
 |none=>rw[e2]at e;exact nS e
 |some p=>rw[e2]at e;cases e;let⟨a,q,rfl,g,s,u,rfl,x,y,z,rfl,h,i,A,rfl,j,B,l,rfl,C,m⟩:=r;cases(show l=[] from m);let⟨c,E,rfl,n,o⟩:=h;cases(show i=.int b from j);exact⟨a,rfl,rfl,_,c,_,g,by rw[n,zgN o e2]⟩
 exact nS e
def zll:∀{ds:List D}{xs:List V}{ks:List K3},RVs K ι H ds xs->ds.mapM zfL=Φ ks->∃as:List Addr,xs=as.map V.ref/\as.length=ks.length/\ds.length=ks.length/\∀(j:Nat)(b:Addr),as[j]?=Φ b->∃k,ks[j]?=Φ k/\Let2 H b k
 | [],xs,ks,r,e=>by cases(show xs=[] from r);simp at e;subst e;exact⟨[],rfl,rfl,rfl,λj b h=>by simp at h⟩| d::ds,xs,ks,r,e=>by
  let⟨v,o,rfl,f,g⟩:=r;rw[Ϛ]at e;cases e1:zfL d with
  |none=>rw[e1]at e;exact nS e
  |some k=>
   cases e2:ds.mapM zfL with
   |none=>rw[e1,e2]at e;exact nS e
   |some q=>rw[e1,e2]at e;cases e;let⟨as,rfl,i,l,m⟩:=zll g e2;let⟨a,rfl,n⟩:=ztt f e1;refine⟨a::as,rfl,by simp[i],by simp[l],λj b c=>?_⟩;cases j with|zero=>cases c;exact⟨k,rfl,n⟩|succ j=>exact m j b (by simpa using c)
def zia:∀{ks:List K3}{ds:List D}{i:Nat}{k:K3}{d:D},ks.Nodup->ks[i]?=Φ k->ds[i]?=Φ d->(ks.zip ds).lookup k=Φ d
 | [],ds,i,k,d,e,c,f=>by simp at c|a::ks,[],i,k,d,e,c,f=>by simp at f| a::ks,b::ds,0,k,d,e,c,f=>by cases c;cases f;rw[List.zip_cons_cons,Ϣ,beq_self_eq_true]| a::ks,b::ds,i+1,k,d,e,c,f=>by
  have g:k∈ks:=mem_of_getElem? (by simpa using c);rw[nodup_cons]at e;have:(k==a)=Δ:=by rw[beq_eq_false_iff_ne];intro z;exact e.1 (z▸g)
  rw[List.zip_cons_cons,Ϣ,this];exact zia e.2 (by simpa using c) (by simpa using f)
def zqr(a:ks.Nodup)(d:ds.length=ks.length)(P:PlcG Lt3 ks p):srtD ds ks=p.map λi=>ds.getD i .non:=by
 have e:(p.map λi=>ks.getD i default)=zjf ks:=zcC ((zk3 default P.perm).trans (zch ks).symm) P.asc (zb4 a);unfold srtD;rw[<-e,map_map];refine Τ λi b=>?_;have h:=P.lt' i b;have c:i<ds.length:=by lia
 show((ks.zip ds).lookup (ks.getD i default)).getD .non=_;rw[zia a (getD_mem default h) (getD_mem D.non c)];rfl
def RVs.at_{ds:List D}{vs:List V}{i:Nat}{d:D}{v:V}(h:RVs K ι H ds vs)(a:ds[i]?=Φ d)(b:vs[i]?=Φ v):RV K ι H d v:=by
 induction ds generalizing vs i with|nil=>exact nS a|cons _ _ f=>let⟨v,vs,rfl,c,e⟩:=h;cases i with|zero=>cases a;cases b;exact c|succ=>exact f e a b
end
def RVs.ofGet{K}:∀{ds:List D}{vs:List V},ds.length=vs.length->(∀(i:Nat) d v,ds[i]?=Φ d->vs[i]?=Φ v->RV K ι H d v)->RVs K ι H ds vs
 | [],[],_,_=>rfl| [],_::_,h,_=>by simp at h|_::_,[],h,_=>by simp at h|d::ds,v::vs,h,f=>⟨v,vs,rfl,f 0 d v rfl rfl,RVs.ofGet (by simpa using h) λi a b c e=>f (i+1) a b (by simpa using c) (by simpa using e)⟩
def RH.add{K}(h:RH K ι H S)(x:Ext ι H (ι++[p]) H')(e:∀a∈ι,H' a=H a)(f:p∉ι)(g:RO K (ι++[p]) H' p o):RH K (ι++[p]) H' (S.push o):=by
 refine⟨by rw[length_append,h.len,zcm];rfl,?_,λl r q=>?_,x.kp.tab h.tab⟩;rw[nodup_append];refine⟨h.nd,by simp,λa i b d=>?_⟩;simp at d;subst d;exact λz=>f (z▸i);by_cases j:l<S.len;rw[zcH j]at q;let⟨a,k,m,n⟩:=h.mem q;exact⟨a,zbP (ϙ _ _) k,m.stay x (e a n)⟩;have c:=get_lt q;rw[zcm]at c;have:l=S.len:=by lia
 subst this;rw[zfT]at q;cases q;exact⟨p,by rw[<-h.len];simp,g⟩
section
variable{T:Tab}{cf:CF}{k:Nat}{N:List Str}{sc:Scope}{X:Cx}{pos p kpos:Pos}
def zpK(G:Gd T cf k N sc X)(hN:N=T.lam)(U:Gl X "sorted"/\X.mg "sorted"=Ψ)(he:PE X e (tE X.K cf ca))(u:zao e=Γ)(r:lamB le=Γ):
  PE X (.Call (.Name "sorted" p) [e] [⟨Φ "key",le,kpos⟩] pos) (tE X.K cf (.srtK ca)):=by
 let⟨t,Y,A,lpos,rfl,L⟩:=znI r;let⟨hk,c,mk⟩:=G.lam hN;have room:Room 2 X.A.in1.in1:=((G.room'.mono (Nat.succ_le_succ hk)).in1).in1;refine PE.imp (zqv he u U.1 U.2 room mk (L.df _) (L.cl _) L.sc (L.bd _) L.kb) λσ H Qv y=>?_;let⟨δ,ι,S,Q,hs,hh,w,q⟩:=y;change W (Out.bind _ _) _ at w;simp![zab] at w;refine tE.run hs hh w λd v m H1 B x1 hs1 f r1 w1=>?_;let⟨⟨ds,ks⟩,g,n⟩:=zaw w1;cases d with
 |ref l=>
  simp![zgH]at g;cases C:B.get l with
  |none=>rw[C]at g;exact nS g
  |some o=>
   rw[C]at g;cases o with
   |lst E=>
    dsimp only at g;cases em:E.mapM zfL with
    |none=>rw[em]at g;exact nS g
    |some ks'=>
     rw[em]at g;cases g;let⟨b,i1,rfl⟩:=r1;let⟨b',i2,xs,hx,rs⟩:=f.obj l _ C;rw[i1]at i2;cases i2;let⟨as,rfl,l1,l2,la⟩:=zll rs em;dsimp only at n;split at n;rename_i I;unfold lay at n;split at n;rename_i hz;refine⟨b,as,ks,rfl,SqL.of hx,l1,I.1,I.2,la,f.tab,λs H2 p x hD P h2=>?_⟩;have J:s∉m:=f.fresh hD;have M:Ext m H1 (m++[s]) H2:=⟨ϙ _ _,x.kp,λa o h e=>⟨(x.rest a o (by simp) e).1,λz=>by rcases mem_append.mp z with z|z;exact h z;simp at z;exact zai e hD z⟩⟩;refine q _ _ ⟨.ref B.len,m++[s],B.push (.lst (srtD ds ks)),x1.trans M,⟨s,f.last s,rfl⟩,f.add M (λa hm=>?_) J ⟨_,h2,?_⟩,n⟩;let⟨o,e,_,_,nt⟩:=f.live hm;rw[e];exact x.keep (by simp) e nt;rw[zqr I.2 l2 P];refine RVs.ofGet (by simp) λi d w e1 e2=>?_;rw[getElem?_map]at e1;rw[getElem?_map,getElem?_map]at e2;cases O:p[i]? with
     |none=>rw[O]at e1;exact nS e1
     |some j=>rw[O]at e1 e2;cases e1;cases e2;have hj:=P.lt' j (mem_of_getElem? O);have:=RVs.at_ rs (getD_mem D.non (show j<ds.length by lia)) (by rw[getElem?_map,getD_mem 0 (show j<as.length by lia)];rfl);exact(this.ext M)
     exact n.elim;exact n.elim
   |_=>exact nS g
 |_=>exact nS g
end
end R
namespace R
open PySem PySem.Spec PyProof.Rows L2
section
variable{X:Cx}{o e f:Expr}{apos cpos:Pos}{td ty tv:TE}
abbrev zr3(td ty tv:TE):TE:=λc H Q=>td c H λx g=>∃a,x=.ref a/\IsD g a/\ty c g λy h=>tv c h λv d=>∃b k,d a=Φ (.dK b)/\y=.int k/\(∀u,valV b (.inl k)=Φ u->Q u d)/\(valV b (.inl k)=Ψ->b.length<sizeLine/\Q v (upd d a (.dK (putK b (.inl k) v))))
def znr(N:PE X o td)(n:PE X e ty)(O:PE X f tv)(m:M2 X o "setdefault" apos e f cpos):PE X (.Call (.Attribute o "setdefault" apos) [e,f] [] cpos) (zr3 td ty tv):=by
 intro b s p H Q I h;refine wpAny_Call_method m.base m.few m.line PySem.F.plainAttrs_dict PySem.F.slot_dict_setdefault PySem.F.type_dict_setdefault (thn (N b s p H _ I h) λu T j=>?_);let⟨x,U,B,Y,a,ex,d,q1⟩:=j;subst ex;obtain rfl:u=Ξ.ref a:=Y;let⟨t1,t2,_⟩:=zlL B d;refine⟨t1,t2,?_⟩;rw[m.trees];refine Calls.callWith_builtin rfl (Calls.evalArgs_plain (Calls.spliced_cons (thn (n b T p U _ B q1) λiv s2 z=>eY z λy H2 I2 ry q2=>Calls.spliced_cons (thn (O b s2 p H2 _ I2 q2) λfv s3 ⟨v,C,t,E,g,k,G,ey,q3,q4⟩=>Calls.spliced_nil ?_))));subst ey;let⟨z,J,L,c,M⟩:=ztR t.hok G;have hz:L.length<=sizeLine:=by rw[<-c.length];exact z
 refine PySem.call_meetsIn PySem.F.slot_dict_setdefault M.typeIs PySem.F.entry_dict_setdefault (PySem.F.args_dict_setdefault_3 _ _ _) (PySem.kt_meets_setdefault (zar X.prog X.w) a (znM (k:=.inl k) ry) J fv) ⟨L,M,hz,λw hw=>?_,λhn h' i hs=>?_⟩;have r:=c.val (.inl k);rw[hw]at r;cases l:valV g (.inl k) with|none=>rw[l]at r;exact r.elim|some u=>rw[l]at r;exact⟨u,C,t.tok _,r,q3 u l⟩
 have r:=c.val (.inl k);rw[hn]at r;cases l:valV g (.inl k) with
 |some u=>rw[l]at r;exact r.elim| none=>
  let⟨hl,q5⟩:=q4 l;have A:(putK g (.inl k) v).length<=sizeLine:=by have:=zcF g (.inl k) v;omega
  have n:∃q,h'.get? a=Φ q:=let ⟨q,_,_,hq,_⟩:=i;⟨q,hq⟩;exact⟨v,upd C a (.dK (putK g (.inl k) v)),zfY (t':=s3.toks+1) t (by rw[G];exact True.intro) hs n (zo2 A J (c.put (.inl k) E) i),E,q5⟩
end
variable[Mks]
def RIs.val{K}(k):∀{kvs:List (Int×D)}{a:List (Key×V)},RIs K ι H kvs a->(valI kvs k=Ψ/\valV a (.inl k)=Ψ)\/∃d v,valI kvs k=Φ d/\valV a (.inl k)=Φ v/\RV K ι H d v
 | [],a,r=>by cases(show a=[] from r);exact .inl ⟨rfl,rfl⟩| (j,d)::kvs,a,r=>by
  let⟨⟨_,v⟩,w,rfl,rfl,b,c⟩:=r;by_cases e:j=k;subst e;exact .inr ⟨d,v,by simp[valI],by simp[valV],b⟩;have f:valI ((j,d)::kvs) k=valI kvs k:=by simp[valI,e]
  have g:valV (((Sum.inl j:Key),v)::w) (.inl k)=valV w (.inl k):=by simp[valV,e]
  rw[f,g];exact RIs.val k c
section
variable{T:Tab}{cf:CF}{k:Nat}{N:List Str}{sc:Scope}{X:Cx}{pos p p2 pos':Pos}
def zlJ(f:RH X.K ι H S)(r:RV X.K ι H d v)(h:isDi S d=Γ):∃a,v=.ref a/\IsD H a:=by
 cases d with
 |ref l=>
  let⟨p,g,rfl⟩:=r;simp![isDi]at h;cases e:S.get l with
  |none=>rw[e]at h;exact nB h
  |some o=>rw[e]at h;let⟨b,c,i⟩:=f.obj _ _ e;rw[g]at c;cases c;cases o with|dic j=>let⟨_,m,n,_⟩:=i;exact⟨p,rfl,.inl ⟨m,.inl n⟩⟩|_=>exact nB h
 |_=>exact nB h
def zg1(i:RH X.K ι H S)(j:RV X.K ι H x m)(n:RV X.K ι H y d)(h:zg2 S x y=Φ o):
  ∃l a kvs c kk,x=.ref l/\ι[l]?=Φ a/\S.get l=Φ (.dic kvs)/\m=.ref a/\y=.int kk/\(kvs.map (·.1)).Nodup/\H a=Φ (.dK c)/\RIs X.K ι H kvs c/\d=.int kk/\o=valI kvs kk:=by
 unfold zg2 at h;cases x with
 |ref l=>
  let⟨p,f,rfl⟩:=j;dsimp only at h;cases e:S.get l with
  |none=>rw[e]at h;exact nS h
  |some q=>
   rw[e]at h;let⟨b,g,r⟩:=i.obj _ _ e;rw[f]at g;cases g;cases q with
   |dic kvs=>let⟨s,c,t,u⟩:=r;dsimp only at h;cases y with| int kk=>cases h;obtain rfl:d=.int kk:=n;exact⟨l,p,kvs,c,kk,rfl,f,e,rfl,rfl,s,t,u,rfl,rfl⟩|_=>exact nS h
   |_=>exact nS h
 |_=>exact nS h
def zmP(G:Gd T cf k N sc X)(L:PE X o (tE X.K cf M))(O:PE X e (tE X.K cf U))(Y:PE X x (tE X.K cf cx))(g:zao e=Γ)(b:zao x=Γ)(h:zbd o=Γ)(hl:(apos.endLine==cpos.line)=Γ):
  PE X (.Call (.Attribute o "get" apos) [e,x] [] cpos) (tE X.K cf (.dgetI M U cx)):=by
 refine PE.imp (ziA (by have:=G.hu;lia) L O Y ⟨zcL h "get" X.env _,by rw[zan g,zan b];rfl,hl,by rw[zan g,zan b];rfl⟩) λσ H Qv j=>?_;let⟨δ,ι,S,Q,hs,hh,w,q⟩:=j;change W (Out.bind _ _) _ at w;simp![zab] at w;refine tE.run hs hh w λd v ι1 H1 S1 x1 r i A m=>?_;split at m;rename_i c;let⟨a,rfl,hD⟩:=zlJ i A c;refine⟨a,rfl,hD,?_⟩;rw[zab]at m;refine tE.run r i m λy vy ι2 H2 S2 B s t r2 C=>?_;rw[zab]at C;refine tE.run s t C λz vz ι3 H3 S3 u hs3 f r3 E=>?_;rw[zab]at E;let⟨o,eo,n⟩:=zaw E;let⟨l,a',kvs,ws,I,_,_,_,ea,_,nd,ha,rk,rfl,rfl⟩:=zg1 f (A.ext (B.trans u)) (r2.ext u) eo;cases ea;refine⟨_,DGet.k (k:=.inl I) ha,?_⟩;have J:=(x1.trans B).trans u;rcases rk.val I with⟨e1,e2⟩|⟨d',v',e1,e2,rv⟩;rw[e1]at n;rw[e2];exact q _ _ (Lf.up J (Lf.of f r3 n));rw[e1]at n;rw[e2];exact q _ _ (Lf.up J (Lf.of f rv n));exact m.elim
def zmN(G:Gd T cf k N sc X)(ho:PE X o (tE X.K cf co))(he:PE X e (tE X.K cf ce))(hx:PE X x (tE X.K cf cx))(m:zao e=Γ)(g:zao x=Γ)(n:zbd o=Γ)(hl:(apos.endLine==cpos.line)=Γ):
  PE X (.Call (.Attribute o "setdefault" apos) [e,x] [] cpos) (tE X.K cf (.dsetI co ce cx)):=by
 refine PE.imp (znr ho he hx ⟨zcL n "setdefault" X.env _,by rw[zan m,zan g];rfl,hl,by rw[zan m,zan g];rfl⟩) λσ H Qv j=>?_;let⟨δ,ι,S,Q,hs,hh,w,q⟩:=j;change W (Out.bind _ _) _ at w;simp![zab] at w;refine tE.run hs hh w λd v ι1 H1 S1 x1 L s r1 B=>?_;split at B;rename_i c;let⟨a,rfl,hD⟩:=zlJ s r1 c;refine⟨a,rfl,hD,?_⟩;rw[zab]at B;refine tE.run L s B λy vy ι2 H2 S2 x2 M O r2 w2=>?_;rw[zab]at w2;refine tE.run M O w2 λz vz U H3 C Y hs3 f r3 w3=>?_;rw[zab]at w3;let⟨r,b,w4⟩:=zaw w3;have up:=(x1.trans x2).trans Y;unfold zfZ at b;cases eg:zg2 C d y with
 |none=>rw[eg]at b;exact nS b
 |some og=>
  let⟨l,a',t,E,h,rfl,hi,hg,ea,rfl,nd,ha,rk,rfl,rfl⟩:=zg1 f (r1.ext (x2.trans Y)) (r2.ext Y) eg;cases ea;rw[eg]at b;have A:∀T,dPut C (.ref l) (.int h) z=Φ T->t.length<16777216/\C.put l (.dic (putI t h z))=Φ T:=λT i=>by unfold dPut at i;dsimp only at i;rw[hg]at i;dsimp only[zed,bind_some]at i;split at i;rename_i c;exact⟨c,i⟩;exact nS i
  rcases rk.val h with⟨e1,e2⟩|⟨d',v',e1,e2,rv⟩;rw[e1]at b;dsimp only at b;cases ep:dPut C (.ref l) (.int h) z with
  |none=>rw[ep]at b;exact nS b
  |some T'=>
   rw[ep]at b;cases b;let⟨c,es⟩:=A _ ep;have I:=Ext.wr f hg hi (.dK (putK E (.inl h) vz));have hz:E.length<sizeLine:=by rw[rk.length,Υ];exact c
   refine⟨E,h,ha,rfl,λu J=>absurd (e2.symm.trans J) (λz=>by exact nS z),λ_=>⟨hz,?_⟩⟩;exact q _ _ ⟨z,U,T',up.trans I,r3.ext I,f.wr hg hi es ⟨zjv nd,_,zaf,(rk.put h r3 nd).up I.pre I.kp⟩,w4⟩
  rw[e1]at b;cases b;refine⟨E,h,ha,rfl,λu J=>?_,λhn=>absurd (e2.symm.trans hn) (λz=>by cases z)⟩;rw[e2]at J;cases J;exact q _ _ (Lf.up up (Lf.of f rv w4))
 exact B.elim
end
section
variable{T:Tab}{cf:CF}{k:Nat}{N:List Str}{sc:Scope}{X:Cx}{pos p:Pos}
def zgO(h:zb0 S d=Φ (c,a)):∃l,d=.ref l/\S.get l=Φ (.ins c a):=by
 cases d with
 |ref l=>
  refine⟨l,rfl,?_⟩;unfold zb0 at h;dsimp only at h;cases e:S.get l with
  |none=>rw[e]at h;exact nS h
  |some o=>rw[e]at h;cases o with|ins f b=>cases h;rfl|_=>exact nS h
 |_=>exact nS h
def ne_of{b:Type}[BEq b]{xs:List b}{a:b}(h:xs.contains a=Γ):xs≠[]:=λe=>by rw[e]at h;simp at h
def Gd.clsAt(G:Gd T cf k N sc X)(d:T.flds≠[]\/T.inits≠[]\/T.isas≠[]){c:Nat}(h:Mks.cl[c]?=Φ C):∃x,T.cls[c]?=Φ x/\Cls X.K C/\X.mg x=Φ (.ref C)/\∀f,T.flds.contains f=Γ->NoAttr X.K C f:=by have a:c<T.cls.length:=lt_of_lt_of_le (Α.mp h).1 (G.tab.cln d);let⟨j,b,e,g,i⟩:=G.tab.cls c T.cls[c] (Ι a);rw[h]at b;cases b;exact⟨_,Ι a,e,g,i⟩
def zsq(G:Gd T cf k N sc X)(n:PE X a (tE X.K cf o))(g:zbd a=Γ)(j:T.flds.contains f=Γ):PE X (.Attribute a f pos) (tE X.K cf (.fld o f)):=by
 refine PE.imp (zs2 n (zcL g f X.env _)) λσ H Qv z=>?_;let⟨δ,ι,S,Q,r,s,w,q⟩:=z;change W (Out.bind _ _) _ at w;simp![zab] at w;refine tE.run r s w λd v t H1 x y A h B E=>?_;let⟨u,e,I⟩:=zaw E;cases i:zb0 x d with
 |none=>rw[i]at e;exact nS e
 |some J=>let⟨c,L⟩:=J;rw[i]at e;have e:L.lookup f=Φ u:=e;let⟨l,rfl,M⟩:=zgO i;let⟨b,O,rfl⟩:=B;let⟨b',m,C,U,Y,hC,hb,rf⟩:=h.obj l _ M;rw[O]at m;cases m;let⟨_,_,cl,_,na⟩:=G.clsAt (.inl (ne_of j)) hC;rcases rf.look f with⟨e1,_⟩|⟨d',v',e1,e2,rv⟩;rw[e]at e1;cases e1;rw[e]at e1;cases e1;exact⟨b,C,U,Y,v',rfl,hb,cl,na f j,e2,q _ _ (Lf.up y (Lf.of h rv I))⟩
def zfG(c:attributeBase o name env (eval o env)=eval o env)(i:((backTo pos (starEach args env)).all (λx=>!x.1)&&(backToKw pos (keywordEach [] env)).all (λx=>x.1.isSome)
   && decide (args.length+([]:List Keyword).length+(if([]:List Keyword).isEmpty then 0 else 1)<30))=Γ)(d:(apos.endLine==pos.line)=Γ)(h:wpAny (model prog w) A (eval o env) (λq a=>∀r,wpAny (model prog w) A (getMethod q name r) (λn b=>wpAny (model prog w) A (callWith pos n.1 n.2 (backTo pos (starEach args env)) (backToKw pos (keywordEach [] env))) Q E b) E a) E s):
  wpAny (model prog w) A (eval (.Call (.Attribute o name apos) args [] pos) env) Q E s:=by
 rw[arm_eval_Call,c];refine Θ (ύ h (λq a j=>?_) λ_ _ e=>e);refine Θ (wpAny_standAt ?_);have g:methodCallForm (args.length+([]:List Keyword).length) (backTo pos (starEach args env)) (backToKw pos (keywordEach [] env))=Γ:=i;have l:methodCallPos Γ o env apos pos=pure pos:=by unfold methodCallPos;simp[d]
 unfold methodCall;rw[g];refine Θ (ϝ (ύ (j _) (λn b m=>?_) λ_ _ e=>e));let⟨f,first⟩:=n;exact Θ (wpAny_of_eq l m)
abbrev zkb(X:Cx)(k:Nat)(m:Str)(i:TE)(t:TA):TE:=λb H Q=>i b H λx c=>∃(a C j:Addr) (d:List (Str×V)) (e:Addr) (f:FuncData) (g:List Str) (h:Sp),x=.ref a/\c a=Φ (.ins C j d)/\Cls X.K C/\Meth X.K C m e/\
 FnOk X.prog X.w X.K X.mg X.base CX0 k e f g h/\Binds X.K f g []/\d.lookup m=Ψ/\t b c λl n=>h (x::l) n Q E0
def znm(A:PE X o B)(E:Room k X.A)(G:PA X (e::es) t)(d:attributeBase o m X.env (eval o X.env)=eval o X.env)(g:((backTo pos (starEach (e::es) X.env)).all (λx=>!x.1)&&(backToKw pos (keywordEach [] X.env)).all (λx=>x.1.isSome)
   && decide ((e::es).length+([]:List Keyword).length+(if([]:List Keyword).isEmpty then 0 else 1)<30))=Γ)(f:(apos.endLine==pos.line)=Γ)(i:starEach (e::es) X.env=(Δ,eval e X.env)::starEach es X.env)(j:(backTo pos (starEach es X.env)).any (·.1)=Δ):
  PE X (.Call (.Attribute o m apos) (e::es) [] pos) (zkb X k m B t):=by
 intro b s n H Q I h;refine zfG d g f (thn (A b s n H _ I h) λu J z pl=>?_);let⟨x,L,v,M,a,C,dx,fs,fa,fd,ps,sp,O,U,c,w,F,Y,l,q⟩:=z;subst O;obtain rfl:u=Ξ.ref a:=M;refine zeV v U c w l ?_;refine callWith_K (first:=[.ref a]) (h₀:=X.base) I.ok.mod.kin w.kp (thn (G pos b J n L _ v q) λus s2 z=>eY z λvs H2 y r q2=>⟨y.kIn,?_⟩) i j;exact zgi (us:=.ref a::us) (vs:=.ref a::vs) F E Y .nil zhG y (.cons rfl r) (by rw[Ϥ];exact q2)
def zk4(i:PE X o j)(n:Room k X.A)(b:attributeBase o m X.env (eval o X.env)=eval o X.env)(d:(apos.endLine==pos.line)=Γ):
  PE X (.Call (.Attribute o m apos) [] [] pos) (zkb X k m j tNil):=by
 intro e s r H Q I h;refine zfG b rfl d (thn (i e s r H _ I h) λu A z B=>?_);let⟨x,E,f,t,a,C,G,J,L,M,O,U,v,w,c,g,F,y,l,q⟩:=z;subst v;obtain rfl:u=Ξ.ref a:=t;refine zeV f w c g l ?_;exact callWith_K0 (first:=[.ref a]) f.kIn g.kp (zgi (us:=[.ref a]) (vs:=[.ref a]) F n y .nil zhG f (.cons rfl .nil) (by rw[Ϥ];exact q))
abbrev mtB(T:Tab)(m:Str)(a:List (Nat×Nat)):Bool:=a.all λp=>T.mts.contains (p.1,m,p.2)
def zjB{a:List (Nat×Nat)}(h:a.lookup c=Φ f):(c,f)∈a:=by
 induction a with
 |nil=>exact nS h
 |cons p r b=>let⟨d,g⟩:=p;simp![List.lookup]at h;split at h;rename_i e;cases h;have:=eq_of_beq e;subst this;simp;exact Κ _ (b h)
def ziE(G:Gd T cf k N sc X)(U:mtB T m Y=Γ)(ht:∀{i:L2.St}{H:Hp}{E:List V->Hp->Prop},tAs X.K cf n i H E->t i H E)(h:tE X.K cf (.meth m Y co n) i H Qv):zkb X k m (tE X.K cf co) t i H Qv:=by
 let⟨δ,ι,S,Q,hs,hh,w,q⟩:=h;change W (Out.bind _ _) _ at w;simp![zab] at w;refine tE.run hs hh w λd v ι1 H1 S1 x1 o a I w1=>?_;let⟨pr,ei,w2⟩:=zaw w1;let⟨c,fs⟩:=pr;let⟨f,ef,j⟩:=zaw w2;split at j;rename_i s;rw[zab]at j;let⟨l,rfl,hl⟩:=zgO ei;have u:=I;let⟨b,i1,rfl⟩:=I;let⟨b',J,C,dx,L,hC,hb,rf⟩:=a.obj l _ hl;rw[i1]at J;cases J;have y:=all_eq_true.mp U (c,f) (zjB ef);let⟨C',fa,fd,ps,g,cl,me,F,bi⟩:=(G.tab.mth c m f y).ex;rw[hC]at g;cases g;have z:L.lookup m=Ψ:=by rcases rf.look m with⟨_,e2⟩|⟨d',v',e1,_,_⟩;exact e2;dsimp only at s;rw[e1]at s;exact nB s
 refine⟨b,C,dx,L,fa,fd,ps,_,rfl,hb,cl,me,F,bi,z,ht ?_⟩;refine tAs.run o a j λds vs A H2 S2 M hs2 B r2 O=>?_;unfold appW at O;refine⟨A,S2,.ref l::ds,⟨.ref b,vs,rfl,u.ext M,r2⟩,B,?_⟩;let⟨d,T',e,w5⟩:=zf8 O;rw[e];exact λv H' ι' x r hT=>q v H' (Lf.up (x1.trans M) ⟨d,ι',T',x,r,hT,w5⟩);exact j.elim
def zpN(G:Gd T cf k N sc X)(d:mtB T m f=Γ)(g:PE X o (tE X.K cf i))(j:PA X (e::es) (tAs X.K cf c))(a:(e::es).all zao=Γ)(b:zbd o=Γ)(l:(apos.endLine==pos.line)=Γ)(u:(e::es).length<29):
  PE X (.Call (.Attribute o m apos) (e::es) [] pos) (tE X.K cf (.meth m f i c)):=by
 have n:=a;rw[all_cons,Ε]at a;refine PE.imp (znm g G.room j (zcL b m X.env _) ?_ l (zan a.1 es X.env) (zaQ a.2)) λv H w h=>ziE G d (λz=>z) h;have q:=zaQ (pos:=pos) (env:=X.env) n;have r:(backTo pos (starEach (e::es) X.env)).all (λx=>!x.1)=Γ:=by rw[all_eq_true];intro x s;have:=List.any_eq_false.mp q x s;simpa using this
 have t:decide ((e::es).length+([]:List Keyword).length+(if([]:List Keyword).isEmpty then 0 else 1)<30)=Γ:=by rw[decide_eq_true_eq];show(e::es).length+0+0<30;lia
 rw[r,t];rfl
def ziD(b:a=.nil)(h:tAs X.K cf a c H d):tNil c H d:=by subst b;let⟨f,ι,S,Q,g,e,w,q⟩:=h;exact q [] H ⟨[],ι,S,Ext.refl _ _,rfl,e,by simpa[evEs]using w⟩
def zmM(G:Gd T cf k N sc X)(b:mtB T m c=Γ)(d:PE X o (tE X.K cf e))(a:zbd o=Γ)(f:(apos.endLine==pos.line)=Γ):
  PE X (.Call (.Attribute o m apos) [] [] pos) (tE X.K cf (.meth m c e .nil)):=
 PE.imp (zk4 d G.room (zcL a m X.env _) f) λg H i h=>ziE G b (λz=>ziD rfl z) h
def Vals.nons:∀j:Nat,Vals (List.replicate j .non) (List.replicate j Ξ.none)
 |0=>.nil|j+1=>.cons rfl (Vals.nons j)
def ziG(G:Gd T cf k N sc X)(O:Mks.cl[c]?=Φ C)(U:∀{n:L2.St}{H:Hp}{E:List V->Hp->Prop},tAs X.K cf o n H E->t n H E)(h:tE X.K cf (.mk c f x j o) n H Y):zpr C (spF X.K cf f) (List.replicate j V.non) E0 t n H Y:=by
 let⟨δ,ι,S,Q,hs,hh,w,q⟩:=h;change W (Out.bind _ _) _ at w;simp![zab] at w;refine U (tAs.run hs hh w λds vs a i s x1 hs1 u r1 I=>?_);intro y g hy l z;have b:=u.new l (.own y);have J:Ext a i a (upd i g (.own y)):=Ext.new l _;have m:(upd i g (.own y)) y=Ψ:=by rw[zad (Ne.symm z)];exact hy
 have A:=b.obj' m (.ins C g []) (.ins c []) ⟨C,g,[],O,zaf,rfl⟩;have L:Ext a (upd i g (.own y)) (a++[y]) (upd (upd i g (.own y)) y (.ins C g [])):=Ext.obj b m _;unfold appW at I;let⟨d,T',e,B⟩:=zf8 I;refine⟨a++[y],s.push (.ins c []),.ref s.len::(ds++List.replicate j .non),⟨.ref y,_,rfl,⟨y,b.last y,rfl⟩,RVs.append ((r1.ext J).ext L) (RVs.nons j)⟩,A,?_⟩;rw[e];intro v H' ι' M r hT;split at B;rename_i hn;cases d with| non=>refine⟨r,q _ _ ⟨.ref s.len,ι',T',((x1.trans J).trans L).trans M,⟨y,zbP M.pre (b.last y),rfl⟩,hT,B⟩⟩|_=>exact nB hn
 exact B.elim
def zuq(G:Gd T cf k N sc X)(d:T.inits.contains (c,f,j)=Γ)(i:T.cls[c]?=Φ x)(l:isGl sc x=Γ)(hd:(x==("__debug__":Str))=Δ)(m:PA X (e::es) (tAs X.K cf b))(a:(e::es).all zao=Γ):
  PE X (.Call (.Name x p) (e::es) [] pos) (tE X.K cf (.mk c f x j b)):=by
 let⟨C,q,r,s,g,M,F,n⟩:=(G.tab.ini c f j d).ex;let⟨t,e1,_,o,_⟩:=G.clsAt (.inr (.inl (ne_of d))) g;rw[i]at e1;cases e1;rw[all_cons,Ε]at a;exact PE.imp (zqw M F G.room' (G.gl l) o n (Vals.nons j) zhG m hd (zan a.1 es X.env) (zaQ a.2)) λu H v h=>ziG G g (λz=>z) h
def zsn(G:Gd T cf k N sc X)(a:T.inits.contains (c,f,j)=Γ)(d:T.cls[c]?=Φ x)(e:isGl sc x=Γ)(hd:(x==("__debug__":Str))=Δ):
  PE X (.Call (.Name x p) [] [] pos) (tE X.K cf (.mk c f x j .nil)):=by
 let⟨C,l,m,n,b,M,F,g⟩:=(G.tab.ini c f j a).ex;let⟨o,e1,_,i,_⟩:=G.clsAt (.inr (.inl (ne_of a))) b;rw[d]at e1;cases e1;exact PE.imp (znn M F G.room' (G.gl e) i g (Vals.nons j) zhG hd) λq H r h=>ziG G b (λz=>ziD rfl z) h
def ztM(hs:(e::es).all zao=Γ)(f:(e::es).length<29):((backTo pos (starEach (e::es) env)).all (λx=>!x.1)&&(backToKw pos (keywordEach [] env)).all (λx=>x.1.isSome)
  && decide ((e::es).length+([]:List Keyword).length+(if([]:List Keyword).isEmpty then 0 else 1)<30))=Γ:=by
 have a:=zaQ (pos:=pos) (env:=env) hs;have b:(backTo pos (starEach (e::es) env)).all (λx=>!x.1)=Γ:=by rw[all_eq_true];intro x c;have:=List.any_eq_false.mp a x c;simpa using this
 have d:decide ((e::es).length+([]:List Keyword).length+(if([]:List Keyword).isEmpty then 0 else 1)<30)=Γ:=by rw[decide_eq_true_eq];show(e::es).length+0+0<30;omega
 rw[b,d];rfl
def znv(Hs:HasC X.prog X.w X.K X.mg X.base k x m sp)(o:Room k X.A)(w:PA X (e::es) t)(y:Gl X x)(g:(x==("__debug__":Str))=Δ)(c:attributeBase (.Name x p) m X.env (eval (.Name x p) X.env)=eval (.Name x p) X.env)(f:(e::es).all zao=Γ)(A:(e::es).length<29)(d:(apos.endLine==pos.line)=Γ):
  PE X (.Call (.Attribute (.Name x p) m apos) (e::es) [] pos) (zfi sp [] E0 t):=by
 let⟨C,fa,fd,ps,mc,B,E,G,J,L,F,M⟩:=Hs.ex;have a:=f;rw[all_cons,Ε]at a;intro b s i H Q I h;refine zfG c (ztM f A) d (thn (zk5 (v:=.ref C) y B rfl g b s i H (λv j=>v=.ref C/\zfi sp [] E0 t i j Q) I ⟨rfl,h⟩) λu s1 z pl=>?_);let⟨xv,j,l,O,U,q⟩:=z;subst U;obtain rfl:u=Ξ.ref C:=O;refine PySem.W.method_cls l.kIn E (PySem.W.cls_value l.kIn G J rfl ?_);refine callWith_K (first:=[]) (h₀:=X.base) I.ok.mod.kin L (thn (w pos b _ i j _ (l.tok _) q) λus s2 z=>eY z λvs H2 n r Y=>⟨n.kIn,?_⟩) (zan a.1 es X.env) (zaQ a.2);exact zgi (us:=us) (vs:=vs) F o M .nil zhG n r Y
def zjP(h:tE X.K cf (.callC f x m a) i H j):zfi (spF X.K cf f) [] E0 (tAs X.K cf a) i H j:=by let⟨C,ι,S,Q,l,n,w,q⟩:=h;change W (Out.bind _ _) _ at w;simp![zab] at w;refine tAs.run l n w λo E b G s t u c y g=>?_;unfold appW at g;rw[Ϥ];refine⟨b,s,o,y,c,?_⟩;let⟨d,z,e,A⟩:=zf8 g;rw[e];exact λv H' ι' x r B=>q v H' (Lf.up t ⟨d,ι',z,x,r,B,A⟩)
def zmS(G:Gd T cf k N sc X)(d:T.cms.contains (x,m,f)=Γ)(g:isGl sc x=Γ)(hd:(x==("__debug__":Str))=Δ)(a:zbd (.Name x p)=Γ)(i:PA X (e::es) (tAs X.K cf b))(c:(e::es).all zao=Γ)(j:(e::es).length<29)(l:(apos.endLine==pos.line)=Γ):
  PE X (.Call (.Attribute (.Name x p) m apos) (e::es) [] pos) (tE X.K cf (.callC f x m b)):=
 PE.imp (znv (G.tab.cmd x m f d) G.room i (G.gl g) hd (zcL a m X.env _) c j l) λn H o h=>zjP h
end
end R
namespace R
open PySem PySem.Spec PyProof.Rows L2
section
variable{X:Cx}{pins:List (Addr×Obj)}{σ:L2.St}{H:Hp}{s:Β}{A:ϐ}{E:Ξ->Β->Prop}{a c:Addr}{k:K3}{ws:List (K3×Addr×V)}
abbrev val3(ws:List (K3×Addr×V))(k:K3):Option V:=(ws.find? λx=>decide (x.1=k)).map (·.2.2)
def zok(ok:HOk P w H h)(e:Rd H a (.ext (TriO a ws)))(tk:TriK H ws):ws.length<=sizeLine/\(a==sysModules)=Δ/\∃xs,Paired P3 ws xs/\h.DictOfH (zb2 P w) a xs:=by
 let⟨⟨z,y,xs,r,o,g,i,j,b,n,u,v⟩,_,_⟩:=(show ObjOk P w H h a (.ext _) from e.ok ok);refine⟨z,y,xs,r,o,g,i,j,b,n,?_,?_,v⟩;rw[u];exact Τ λx _=>(zhZ x).symm;have d:∀{l:List (K3×Addr×V)}{m:List (K3×Addr×Ξ)},Paired P3 l m->TriK H l->∀x∈m,(zb2 P w).is h x.1 x.2.1:=by
  intro l m q;induction q with
  |nil=>intro _ x b;exact by cases b
  | @cons p q G I f t B=>intro tk x b;rcases mem_cons.mp b with e|b;subst e;rw[<-f.1,<-f.2.1];exact zfN ok (tk p Μ);exact B (λy C=>tk y (Κ _ C)) x b
 exact d r tk
def zs5(k)(h:Paired P3 ws xs):RelO (val3 ws k) ((atKey xs k).map (·.2)):=by induction h with|nil=>exact trivial| @cons p q f g b t d=>unfold val3 atKey at d⊢;rw[ϑ,ϑ];by_cases e:p.1=k;rw[decide_eq_true e,decide_eq_true (b.1▸e)];exact b.2.2;rw[decide_eq_false e,decide_eq_false (b.1▸e)];exact d
def zrl(n:A.units+5<cLine)(I:Inv X pins σ H s)(e:Rd H a (.ext (TriO a ws)))(tk:TriK H ws)(i:Key3 H k c)(j:RelV d r)(h:∀f s',Inv X pins σ H s'->RelV ((val3 ws k).getD d) f->Q f s'):
  wpAny (model X.prog X.w) A (call (.builtin "dict.get") [.ref a,.ref c,r]) Q E s:=by
 let⟨z,l,m,b,g⟩:=zok I.hok e tk;refine call_meetsIn PySem.F.slot_dict_get g.typeIs PySem.F.entry_dict_get (PySem.F.args_dict_get_3 _ _ _) (meetsH_dict_get_default (zb2 X.prog X.w) a c l r) ⟨(show A.units+1+4<cLine by omega),k,m,zfN I.hok i,g,h _ _ (I.tok _) ?_⟩;exact(zs5 k b).getD j
end
abbrev zr4(g h i:TE):TE:=λe H Q=>g e H λx f=>∃a b,x=.ref a/\Rd f a (.ext (TriO a b))/\TriK f b/\h e f λy j=>i e j λz d=>∃k c,y=.ref c/\Key3 d k c/\Rd d a (.ext (TriO a b))/\TriK d b/\Q ((val3 b k).getD z) d
def znt(r:X.A.units+5<cLine)(t:PE X o w)(A:PE X e B)(C:PE X f E)(m:M2 X o "get" apos e f cpos):PE X (.Call (.Attribute o "get" apos) [e,f] [] cpos) (zr4 w B E):=by intro g s i H Q I h;refine wpAny_Call_method m.base m.few m.line PySem.F.plainAttrs_dict PySem.F.slot_dict_get PySem.F.type_dict_get (thn (t g s i H _ I h) λu G v=>?_);let⟨x,J,n,L,a,ws,M,d,N,O⟩:=v;subst M;obtain rfl:u=Ξ.ref a:=L;let⟨_,hd,xs,_,p⟩:=zok n.hok d N;refine⟨p.typeIs,λb q=>?_,?_⟩;cases q;let⟨T,_,_,U,Y,_⟩:=p;exact⟨T,U,Y.2.1⟩;rw[m.trees];refine Calls.callWith_builtin rfl (Calls.evalArgs_plain (Calls.spliced_cons (thn (A g G i J _ n O) λiv s2 z=>eY z λy H2 I2 ry q2=>Calls.spliced_cons (thn (C g s2 i H2 _ I2 q2) λfv s3 ⟨z,H3,I3,rz,k,c,ey,ek,d3,j,q3⟩=>Calls.spliced_nil ?_))));subst ey;cases(show iv=Ξ.ref c from ry);exact zrl r I3 d3 j ek rz λw' s4 I4 l=>⟨_,H3,I4,l,q3⟩
end R
namespace R
open PySem PySem.Spec PyProof.Rows L2
variable[Mks]
abbrev hid(H:Hp)(c:Addr):Hp:=λb=>if b=c then Ψ else H b
def zlP:hid H c c=Ψ:=if_pos rfl
def zcX(h:b≠c):hid H c b=H b:=if_neg h
def znP(h:hid H c b=Φ o):b≠c/\H b=Φ o:=by unfold hid at h;split at h;exact nS h;rename_i n;exact⟨n,h⟩
def zcq(h:H b=Ψ):hid H c b=Ψ:=by unfold hid;split;rfl;exact h
noncomputable abbrev envK(st:Stmt)(f c c' L:Addr):Env:=PySem.W.envX arrQ (zaa st) L f (.ref c') [(("last":Str),c)]
abbrev zmd(P:ϊ)(w:ό)(K:Frag)(mg:Str->Option Ξ)(base:Heap)(st:Stmt)(f c c':Addr)(A:ϐ)(outer:List Env)(s:Β)(H:Hp):Cx where
 prog:=P
 w:=w
 K:=K
 mg:=mg
 base:=base
 A:=A.deeper (envK st f c c' s.heap.objs.size)
 N:=["turn","path","to","word","last"]
 s₀:=s
 H₀:=hid H c
 env:=envK st f c c' s.heap.objs.size
 outer:=outer
 stack:=envK st f c c' s.heap.objs.size::outer
 ex:=[]
 calm:=Γ
 fn:=λ_=>Δ
 pn:=[]
 xe:=λ_ _=>False
section
variable{P:ϊ}{w:ό}{K:Frag}{mg:Str->Option Ξ}{base:Heap}{st:Stmt}{f c c' d:Addr}{A:ϐ}{outer:List Env}{s:Β}{H:Hp}{ou:Obj}
def zq3(T:CloSt st)(hd:A.handled=Ψ)(j:Env0 P w K mg base A outer s H)(B:H c=Φ (.frz ou (.own 0)))(G:ou.data=.cell (Φ (.ref d)))(O:RelV Q I)(U:RelV Y J)(r2:RelV v2 L)(r3:RelV v3 M)(C:m.Ns s.heap.objs.size (λx=>([(("turn":Str),I),(("path":Str),J),(("to":Str),L),(("word":Str),M)]:List (Str×Ξ)).reverse.lookup x))(u:∀b o,s.heap.get? b=Φ o->m.get? b=Φ o):
  Inv (zmd P w K mg base st f c c' A outer s H) [] [Φ Q,Φ Y,Φ v2,Φ v3,Φ (.ref d)] (hid H c) {s with heap:=m,toks:=tk}:=by
 have N:s.heap.get? c=Φ ou:=(j.hok c _ B).1;have l:∀(y:Str)(z:Addr),(envK st f c c' s.heap.objs.size).cells.lookup y=Φ z->y="last"/\z=c:=λy z h=>by simp![List.lookup]at h;split at h;rename_i e;cases h;exact⟨by simpa using e,rfl⟩;exact nS h
 have k:(envK st f c c' s.heap.objs.size).cells.lookup ("last":Str)=Φ c:=by simp[List.lookup]
 have E:HOk P w (hid H c) s.heap:=λb o e=>by let⟨n,e⟩:=znP e;refine(j.hok b o e).stay (λ_ _ _ q=>q) (λx q=>?_) λx xs q=>?_;rw[zcX (λz=>by rw[z,B]at q;cases q)];exact q;rw[zcX (λz=>by rw[z,B]at q;cases q)];exact q
 have r:∀b:Addr,b∉(zmd P w K mg base st f c c' A outer s H).ex:=λb z=>absurd (show b∈([]:List Addr) from z) (by simp);refine⟨⟨j.mod,T.kind,rfl,rfl,le_refl _,λy z x g a=>?_,λy t=>?_,λy z hz _=>(by exact nB hz),λ_=>hd,ϐ.frames_deeper j.frames,.inr ⟨rfl,rfl⟩,λb z=>absurd z (r b),λb o e=>⟨(j.bs b o e).1,zcq (j.bs b o e).2⟩,j.bsz,λb _ _=>r b,λb z=>absurd z (r b),j.funs,λb hb=>zcq (j.frf b hb)⟩,
  rfl,j.bare,Un.kept u,⟨_,C,λi y v g a h3=>?_⟩,λy z h=>?_,zcq (j.hok.fresh (le_refl _)),λy z h=>?_,λp hp=>absurd (show p∈([]:List (Addr×Obj)) from hp) (by simp),E.kept u,rfl⟩
 let⟨rfl,_⟩:=l y x g;exact(l z x a).1.symm;rcases t with t|t;exact absurd rfl (T.cell _ (ϓ t));have this:y="last":=T.free _ (ϓ t) rfl;rw[this];exact⟨c,k⟩
 . match i,g,a with|0,g,a=>cases g;cases a;exact⟨I,O,.inl ⟨T.l0,rfl⟩⟩|1,g,a=>cases g;cases a;exact⟨J,U,.inl ⟨T.l1,rfl⟩⟩|2,g,a=>cases g;cases a;exact⟨L,r2,.inl ⟨T.l2,rfl⟩⟩|3,g,a=>cases g;cases a;exact⟨M,r3,.inl ⟨T.l3,rfl⟩⟩|4,g,a=>cases g;cases a;exact⟨.ref d,rfl,.inr ⟨.inr T.l4,c,k,ou,u _ _ N,G⟩⟩|i+5,g,a=>simp at a
 let⟨_,rfl⟩:=l y z h;exact⟨_,ou,u _ _ N,G⟩;let⟨_,rfl⟩:=l y z h;exact zlP
def zn7{s':Β}(k:Env0 P w K mg base A outer s H)(e:H c=Φ (.frz ou (.own 0)))(a:Un (frs outer) [] (hid H c) H' s.heap s'.heap)(hok:HOk P w H' s'.heap):
  Un (frs outer) [] H (upd H' c (.frz ou (.own 0))) s.heap s'.heap/\HOk P w (upd H' c (.frz ou (.own 0))) s'.heap:=by
 have l:s.heap.get? c=Φ ou:=(k.hok c _ e).1;have cf:c∉frs outer:=λz=>by rw[k.frf c z]at e;exact nS e
 have g:s'.heap.get? c=Φ ou:=a.keep c ou l zlP cf (by simp);have m:H' c=Ψ:=a.free c ou l zlP (by simp);have r:∀b,H b=Ψ->b≠c:=λb n z=>by rw[z,e]at n;cases n
 refine⟨⟨λb o q n i j=>a.keep b o q (zcq n) i j,λb o q n i j=>a.slot b o q (zcq n) i j,λb o q n h=>?_,λb o q h=>a.there b o q h,λb p q=>?_,λb o u q=>?_,λb t q=>?_⟩,λb o q=>?_⟩;rw[zad (r b n)];exact a.free b o q (zcq n) h;have z:b≠c:=λz=>by rw[z,e]at q;cases q
 rw[zad z];exact a.tups b p (by rw[zcX z];exact q);by_cases z:b=c;subst z;rw[e]at q;cases q;exact zaf;rw[zad z];exact a.frzs b o u (by rw[zcX z];exact q);have z:b≠c:=λz=>by rw[z,e]at q;cases q
 rw[zad z];exact a.tbls b t (by rw[zcX z];exact q);by_cases z:b=c;subst z;rw[zaf]at q;cases q;exact⟨g,_,g⟩;rw[zad z]at q;exact(hok b o q).stay (λ_ _ _ q=>q) (λx q=>by rw[zad (zai q m)];exact q) λx p q=>by rw[zad (zai q m)];exact q
def zrp(O:Mks.rs=Φ st)(U:Room (k+1) A)(l:Env0 P w K mg base A outer s H)(hf:H f=Φ (.frz (PySem.W.fnMade arrN arrQ (zaq st) (zaj st) (zaa st) [(("last":Str),c)] B pm c' ct) (.own 0)))(Y:H c'=Φ (.frz oc (.own 0)))(hoc:oc.data=.fields vs)(hv:vs[1]?=Φ (.str arrQ t))(m:H c=Φ (.frz ou (.own 0)))(ho:ou.data=.cell (Φ (.ref d)))(hd:H d=Φ (.frz od (.ext (TriO d n))))(tk:TriK H n)(r0:RelV v0 u0)(r1:RelV v1 u1)(r2:RelV v2 u2)(r3:RelV v3 u3)(e0':v0=.int kk.1)(e1:v1=.ref pb)(L:H pb=Φ (.tup (kk.2.1.map V.int)))(e2:v2=.int kk.2.2)(q:∀p,H p=Ψ->Q ((val3 n kk).getD v3) (upd H p (.tup [v0,v1,v2]))):
  codeAny (model P w) A (.call (.ref f) ⟨[u0,u1,u2,u3],[]⟩) (CR CX0 outer P w H s Q E) s:=by
 have T:CloSt st:=by have:=Mks.ro;rw[O]at this;exact this
 have lim:s.heap.NoLimit:=l.mod.nolimit.keeps λb o e=>(l.bs b o e).1;refine codeAny_call_def (fd:=PySem.W.fnX arrN arrQ (zaq st) (zaj st) (zaa st) [(("last":Str),c)] .none .none B pm Ψ (.ref c') ct) (body:=zaj st) U.depth (l.hok f _ hf).1 rfl lim ⟨c',oc,vs,t,rfl,(l.hok c' _ Y).1,hoc,hv⟩ rfl (.of_eq (T.bind _ B pm _ ct u0 u1 u2 u3)) T.cell (λx r=>?_) (λh₁ hns hk=>?_) T.co T.gen T.kind;simp![mem_cons,not_mem_nil,or_false]at r;rcases r with rfl|rfl|rfl|rfl;exact T.l0;exact T.l1;exact T.l2;exact T.l3;have I:=zq3 (f:=f) (c':=c') (tk:=s.toks+([(("turn":Str),u0),(("path":Str),u1),(("to":Str),u2),(("word":Str),u3)]:List (Str×Ξ)).length) T U.hd l m ho r0 r1 r2 r3 hns hk;let⟨x6,p1,p2,p3,p4,p5,p6,p7,p8,p9,eb,l1⟩:=T.body;have hu:(zmd P w K mg base st f c c' A outer s H).A.units+5<cLine:=by have:=U.un;show A.units+3+5<_;lia
 have pT:PE (zmd P w K mg base st f c c' A outer s H) (.Tuple [.Name "turn" p3,.Name "path" p4,.Name "to" p5] x6 p6) (tTup (zex (tVar 0) (zex (tVar 1) (zex (tVar 2) tNil)))):=zoH (zby (zbW rfl (.inl T.l0)) (zby (zbW rfl (.inl T.l1)) (zby (zbW rfl (.inl T.l2)) zeP)));have pb':=zfx (zkT (pos:=p9) (znt hu (zbW (X:=zmd P w K mg base st f c c' A outer s H) (pos:=p1) (i:=4) (x:="last") rfl (.inr (.inr T.l4))) pT (zbW (pos:=p7) (i:=3) (x:="word") rfl (.inl T.l3)) (apos:=p2) (cpos:=p8) ⟨rfl,rfl,l1,rfl⟩));have hdc:d≠c:=λz=>by rw[z,m]at hd;injection hd with hd;injection hd with _ hd;cases hd
 have pbc:pb≠c:=λz=>by rw[z,m]at L;cases L
 rw[eb];subst e0' e1 e2;have hw:=pb' [] _ _ _ {nx:=λ_ _=>False,rt:=λv H'=>∃p,hid H c p=Ψ/\v=(val3 n kk).getD v3/\H'=upd (hid H c) p (.tup [.int kk.1,.ref pb,.int kk.2.2])} I ?_;refine ύ hw (λfl s' M=>?_) λe s' z=>False.elim z;cases fl with
 |ret u=>
  let⟨v,σ',H',J,rv,p,pn,rfl,rfl⟩:=M;have h:(envK st f c c' s.heap.objs.size).cells.lookup ("last":Str)=Φ c:=by simp[List.lookup]
  have pc:p≠c:=λz=>by have:=J.freeC "last" c h;rw[z,zaf]at this;cases this
  have pH:H p=Ψ:=by rw[zcX pc]at pn;exact pn
  have un:Un (frs outer) [] (hid H c) (upd (hid H c) p (.tup [.int kk.1,.ref pb,.int kk.2.2])) s.heap s'.heap:=J.base;let⟨C,g⟩:=zn7 l m un J.hok;have e:upd (upd (hid H c) p (.tup [.int kk.1,.ref pb,.int kk.2.2])) c (.frz ou (.own 0))=upd H p (.tup [.int kk.1,.ref pb,.int kk.2.2]):=by funext b;by_cases z:b=c;subst z;rw[zaf,zad (Ne.symm pc)];exact m.symm;rw[zad z];by_cases y:b=p;subst y;rw[zaf,zaf];rw[zad y,zad y,zcX z]
  rw[e]at C g;exact⟨_,_,J.os,J.bare,C,g,rv,q p pH⟩
 |next=>let⟨_,_,_,z⟩:=M;exact False.elim z|brk=>let⟨_,_,_,z⟩:=M;exact False.elim z|cont=>let⟨_,_,_,z⟩:=M;exact False.elim z
 have up1:∀b N,H b=Φ (.tup N)->hid H c b=Φ (.tup N):=λb N e=>by rw[zcX (λz=>by rw[z,m]at e;cases e)];exact e
 have G:TriK (hid H c) n:=λx r=>(tk x r).up up1;have j:hid H c d=Φ (.frz od (.ext (TriO d n))):=by rw[zcX hdc];exact hd
 refine⟨.ref d,rfl,d,n,rfl,.inr ⟨od,j⟩,G,_,rfl,_,rfl,_,rfl,(by show 3<=sizeLine;rw[Υ];decide),λp a=>⟨v3,rfl,kk,p,rfl,⟨pb,zaf,?_⟩,.inr ⟨od,?_⟩,λx r=>(G x r).up λb N e=>?_,p,a,rfl,rfl⟩⟩;rw[zad (zai (up1 _ _ L) a)];exact up1 _ _ L;rw[zad (zai j a)];exact j;rw[zad (zai e a)];exact e
end
def ze3(h:zdo d ds=Φ r):∃kvs t ps b w p,d=.clo kvs/\ds=[.int t,.tup ps,.int b,w]/\zaD ps=Φ p/\r=(match kvs.find? λa=>decide (a.1=(t,p,b)) with|some a=>wD a.2|none=>w):=by
 cases d with
 |clo kvs=>
  rcases ds with _|⟨a,_|⟨c,_|⟨b,_|⟨w,_|⟨_,_⟩⟩⟩⟩⟩
  all_goals first|exact nS h|skip
  all_goals(cases a<;>first|exact nS h|skip)
  all_goals(cases c<;>first|exact nS h|skip)
  all_goals(cases b<;>first|exact nS h|skip)
  rename_i t ps b;replace h:((zaD ps).map λp=>(match kvs.find? λc=>decide (c.1=(t,p,b)) with|some c=>wD c.2|none=>w))=Φ r:=h;cases e:zaD ps with
  |none=>rw[e]at h;exact nS h
  |some p=>rw[e]at h;exact⟨kvs,t,ps,b,w,p,rfl,rfl,e,(Option.some.inj h).symm⟩
 |_=>exact nS h
def W3s.val(k):∀{kvs:List (K3×Option Int)}{b:List (K3×Addr×V)},W3s H kvs b->((kvs.find? λa=>decide (a.1=k))=Ψ/\val3 b k=Ψ)\/∃a,(kvs.find? λa=>decide (a.1=k))=Φ a/\val3 b k=Φ (vW a.2)
 | [],_,r=>by rw[show _=[] from r];exact .inl ⟨rfl,rfl⟩| (j,o)::kvs,b,r=>by let⟨c,w,rfl,_,d⟩:=r;unfold val3;rw[ϑ,ϑ];by_cases e:j=k;rw[decide_eq_true e];exact .inr ⟨_,rfl,rfl⟩;rw[decide_eq_false e];exact W3s.val k d
def W3s.triK:∀{kvs:List (K3×Option Int)}{a:List (K3×Addr×V)},W3s H kvs a->TriK H a
 | [],_,r=>by rw[show _=[] from r];intro x b;cases b
 |(j,o)::kvs,a,r=>by let⟨c,w,rfl,d,f⟩:=r;intro x b;rcases mem_cons.mp b with e|e;subst e;exact d;exact W3s.triK f x e
def zcK(h:Vals (v::r) us):∃u c,us=u::c/\L2.RelV v u/\Vals r c:=by cases h with|cons a b=>exact⟨_,_,rfl,a,b⟩
def rv_w{K}(o):RV K ι H (wD o) (vW o):=by cases o<;>rfl
section
variable{T:Tab}{cf:CF}{k:Nat}{N:List Str}{sc:Scope}{X:Cx}{pos p:Pos}
def ziM{K}:∀{ps:List D}{is:List Int}{xs:List V},zaD ps=Φ is->RVs K ι H ps xs->xs=is.map V.int
 | [],is,xs,h,r=>by
  have h:is=[]:=by simpa[zaD]using h.symm
  subst h;exact r
 |d::ps,is,xs,h,r=>by let⟨i,f,a,b,rfl⟩:=zaC h;let⟨v,w,rfl,c,e⟩:=r;cases d with| int j=>have a:j=i:=Option.some.inj a;subst a;rw[ziM b e,show v=V.int j from c];rfl|_=>exact nS a
def zmR(G:Gd T cf k N sc X)(hx:PE X (.Name x p) (tE X.K cf ca))(ha:PA X (e::es) (tAs X.K cf M))(o:(e::es).all zao=Γ):
  PE X (.Call (.Name x p) (e::es) [] pos) (tE X.K cf (.callV ca M)):=by
 rw[all_cons,Ε]at o;intro l s σ H Qv I j;let⟨δ,ι,S,Qd,hs,hh,w,q⟩:=j;change W (Out.bind _ _) _ at w;simp![zab] at w;refine Ϙ (thn (hx l s σ H (λv m=>∃d a O,Ext ι H a m/\RS X.K a m δ σ/\RH X.K a m O/\RV X.K a m d v/\W (evEs cf M δ O) λds A=>W (lift A (zdo d ds)) Qd) I (tE.run hs hh w λd v a m O x1 B C r1 U=>⟨d,a,O,x1,B,C,r1,U⟩)) λu s1 y=>?_);let⟨v,m,I1,i,d,a,O,x1,B,C,r1,U⟩:=y;let⟨ds,A,ee,w2⟩:=zf8 U;let⟨r,er,w3⟩:=zaw w2;let⟨Y,t,ps,b,z,pp,rfl,rfl,hp,rfl⟩:=ze3 er;let⟨f,rfl,cl⟩:=r1;obtain rfl:u=Ξ.ref f:=i;have n:∀{H':Hp}{s':Β},HOk X.prog X.w H' s'.heap->CloAt H' f Y->PySem.W.FnAt f s'.heap:=λ{H' s'} ok cl=>by let⟨c,dd,ou,od,ws,⟨st,pm,ct,doc,c',oc,vs,tt,h0,h1,_⟩,_⟩:=cl;exact⟨_,_,_,_,(ok f _ h1).1⟩
 refine PySem.W.callWith_F (n I1.hok cl) (thn (ha pos l s1 σ m (λvs H2=>∃g A,Ext a m g H2/\RH X.K g H2 A/\∃h,RVs X.K g H2 h vs/\W (lift A (zdo (.clo Y) h)) Qd) I1 (tAs.run B C U λh vs g H2 A x2 hs2 J r2 w2=>⟨g,A,x2,J,h,r2,w2⟩)) λus s2 y=>?_) (zan o.1 es X.env) (zaQ o.2);let⟨vs,H2,I2,rvs,g,S2',x2,J,h,r2,w2'⟩:=y;have cl2:=cl.kp x2.kp;refine⟨n I2.hok cl2,?_⟩;clear w2 w3 er hp ee U;let⟨r,er,w3⟩:=zaw w2';let⟨kvs',t,ps,b,z,pp,e1,rfl,hp,rfl⟩:=ze3 er;cases e1;let⟨v0,r0,rfl,q0,v1,r1',rfl,q1,v2,r2',rfl,q2,v3,r3',rfl,q3,q4⟩:=r2;cases(show r3'=[] from q4);let⟨pb,xs,rfl,hpb,rxs⟩:=q1;rw[ziM hp rxs]at hpb;let⟨u0,us,rfl,ru0,i⟩:=zcK rvs;let⟨u1,us,rfl,ru1,i⟩:=zcK i;let⟨u2,us,rfl,ru2,i⟩:=zcK i;let⟨u3,us,rfl,ru3,i⟩:=zcK i;cases i;let⟨c,dd,ou,od,ws,⟨st,pm,ct,doc,c',oc,vs,tt,h0,h1,h2,h3,h4⟩,hc,ho,hd,w3s⟩:=cl2;refine wpAny_call (Ϟ (zrp (k:=k) (Q:=Qv) (E:=λ_ _ _=>False) (kk:=(t,pp,b)) (pb:=pb) h0 G.room' I2.env0 h1 h2 h3 h4 hc ho hd w3s.triK ru0 ru1 ru2 ru3 q0 rfl hpb q2 λp L=>?_) λr s' hq=>?_);refine q _ _ (Lf.up (x1.trans x2) ⟨_,g,S2',Ext.new L _,?_,J.new L _,w3⟩);rcases w3s.val (t,pp,b) with⟨e1,e2⟩|⟨kv,e1,e2⟩;rw[e1,e2];exact q3.ext (Ext.new L _);rw[e1,e2];exact rv_w _;cases r with|error e=>exact False.elim hq| ok fl=>cases fl with|ret u=>exact I2.after hq|_=>exact False.elim hq
end
def zhn{c d:Type}{P:c->d->Prop}{Z:List c->List d->Prop}(e:Z [] [])(f:∀{a b as bs},P a b->Z as bs->Z (a::as) (b::bs)){xs:List c}{ys:List d}(g:∀i:Nat,(∃x y,xs[i]?=Φ x/\ys[i]?=Φ y/\P x y)\/(xs[i]?=Ψ/\ys[i]?=Ψ)) :
  ∀is:List Nat,Z (is.filterMap (xs[·]?)) (is.filterMap (ys[·]?))
 | []=>e| i::is=>by have h:=zhn e f g is;rw[List.filterMap_cons,List.filterMap_cons];rcases g i with⟨x,y,e1,e2,p⟩|⟨e1,e2⟩;rw[e1,e2];exact f p h;rw[e1,e2];exact h
def Vals.stp(r:Vals xs us)(k):Vals (R.stp xs k) (R.stp us k):=by unfold R.stp;rw[r.length];refine zhn (P:=RelV) (Z:=Vals) .nil (λp z=>.cons p z) (λi=>?_) _;cases e:xs[i]? with|none=>exact .inr ⟨rfl,Vals.none_of r e⟩| some x=>let⟨u,a,b⟩:=Vals.get r e;exact .inl ⟨x,u,rfl,a,b⟩
def RVs.stp{K}(r:RVs K ι H ds xs)(k):RVs K ι H (R.stp ds k) (R.stp xs k):=by have a:=r.length;unfold R.stp;rw[a];refine zhn (P:=RV K ι H) (Z:=RVs K ι H) (by unfold RVs;trivial) (λp z=>RVs.cons_iff.mpr ⟨p,z⟩) (λi=>?_) _;cases e:ds[i]? with| none=>refine .inr ⟨rfl,?_⟩;rw[List.getElem?_eq_none_iff]at e⊢;lia| some d=>let⟨v,b,c⟩:=r.get e;exact .inl ⟨d,v,rfl,b,c⟩
def zng(its)(k):slicePick its.toArray Ψ Ψ (Φ k)=(stp its k).toArray:=by unfold slicePick stp stpI;rw[show its.toArray.size=its.length from size_toArray];congr 1;rw[show(λ(x:Nat)=>its.toArray[x]?)=λx=>its[x]? from by funext x;simp];rfl
section
variable{X:Cx}{e st:Expr}{te ts:TE}{pos p2:Pos}
abbrev tStp(K:Frag)(te ts:TE):TE:=λd H Q=>te d H λx f=>zr1 ts d f λo b=>∃k a c,o=Φ k/\k≠0/\x=.ref a/\SqL K b a c/\(stp c k).length<=sizeLine/\∀p,b p=Ψ->Q (.ref p) (upd b p (.lst (stp c k)))
def zsW(A:PE X e te)(hs:PE X st ts):PE X (.Subscript e (.Slice Ψ Ψ (Φ st) p2) pos) (tStp X.K te ts):=by intro d s g H Q I h;refine Subscript_ (thn (A d s g H _ I h) λv B z=>?_);let⟨x,j,C,E,G⟩:=z;refine wpAny_Slice (thn (zhD d B g j (λo H'=>o=Ψ/\H'=j) C ⟨rfl,rfl⟩) λm J z=>?_);let⟨l,n,L,M,N⟩:=z;let⟨rfl,rfl⟩:=N;refine thn (zhD d J g n (λo H'=>o=Ψ/\H'=n) L ⟨rfl,rfl⟩) λp O z=>?_;let⟨u,T,U,Y,q3⟩:=z;let⟨rfl,rfl⟩:=q3;refine thn (zfz hs d O g T _ U G) λt f z=>?_;let⟨c,H4,I4,ps,q4⟩:=z;let⟨k,a,xs,rfl,hk,rfl,ha,hz,q⟩:=q4;cases E;have i:Inv X d g H4 {f with heap:=f.heap.push {cls:=.type "slice",data:=.fields #[m,p,t]}}:=I4.kept (t':=f.toks) λb ob q=>Λ _ q;let⟨its,r,w,hz'⟩:=i.list ha;have y:=r.length;show wpAny (model X.prog X.w) X.A (subscriptTail e (.Slice Ψ Ψ (Φ st) p2) (.ref a) (.ref f.heap.objs.size)) (EP X d g Q) X.xe {f with heap:=f.heap.push {cls:=.type "slice",data:=.fields #[m,p,t]}};refine tail_any (ops:=[.ref a,.ref f.heap.objs.size]) w.isList.typeIs slot_list_getitem.lookup ?_ (by with_unfolding_all rfl);refine wpAny_getItem_list_slice w.isList (Heap.IsSliceOf.new ..) M Y ps (by simpa using hk) ?_ (by rw[size_toArray]<;>lia);rw[zng];refine⟨.ref _,_,i.laid (t':=f.toks) (o:=.lst (stp xs k)) (λb ob q=>Λ _ q) (le_refl _) ?_,rfl,q _ (i.hok.fresh (le_refl _))⟩;exact⟨hz,_,0,Vals.stp r k,Ζ _ rfl⟩
end
section
variable{X:Cx}{cf:CF}{pos p2:Pos}
def zsi(t:PE X a (tE X.K cf x))(A:PE X b (tE X.K cf B)):PE X (.Subscript a (.Slice Ψ Ψ (Φ b) p2) pos) (tE X.K cf (.slS x B)):=by
 refine PE.imp (zsW t A) λσ H Qv z=>?_;let⟨δ,ι,S,Q,C,E,w,q⟩:=z;change W (Out.bind _ _) _ at w;simp![zab] at w;refine tE.run C E w λd v G H1 S1 I g h J L=>?_;refine tE.run g h L λy u M H2 N n O f T c=>?_;cases d with
 |ref l=>
  cases y with
  |int k=>obtain rfl:u=.int k:=T;dsimp only at c;by_cases i:k=0;rw[if_pos i]at c;exact c.elim;rw[if_neg i]at c;cases e:N.get l with|none=>rw[e]at c;exact c.elim| some o=>rw[e]at c;cases o with| lst ds=>have j:=J.ext n;let⟨U,Y,rfl⟩:=j;let⟨b',r,xs,m,s⟩:=f.obj _ _ e;rw[Y]at r;cases r;let⟨hz,w3⟩:=zd9 c;refine⟨k,rfl,k,U,xs,rfl,i,rfl,SqL.of m,?_,λp hp=>q _ _ (Lf.up (I.trans n) (Lf.lst f hp (s.stp k) w3))⟩;rw[(s.stp k).length];exact hz|_=>exact c.elim
  |_=>exact c.elim
 |_=>exact c.elim
end
abbrev LfS(K:Frag)(ι:List Addr)(H:Hp)(Q:Fl->R.St->Prop)(E:Ends):Prop:=∀f ι' H' c,Ext ι H ι' H'->RH K ι' H' c->Q f c->(match f with|.nx b=>∀a,RS K ι' H' b a->E.nx a H'|.rt d=>∀v,RV K ι' H' d v->E.rt v H')
abbrev tS(K:Frag)(cf:CF)(b:CS):TS:=λE c H=>∃a ι S Q,RS K ι H a c/\RH K ι H S/\W (exS cf b a S) Q/\LfS K ι H Q E
def LfS.up{K}(h:LfS K ι H Q E)(x:Ext ι H a b):LfS K a b Q E:=λf ι' H' c d e q=>h f ι' H' c (x.trans d) e q
def PSs.imp{st}(h:PSs X st t)(i:∀E a H,t' E a H->t E a H):PSs X st t':=λb s a H E I q=>h b s a H E I (i E a H q)
section
variable{T:Tab}{cf:CF}{k:Nat}{N:List Str}{sc:Scope}{X:Cx}{pos p:Pos}{rest:List Stmt}
def zsb:PSs X [] (tS X.K cf .nil):=PSs.imp zkR λE a H z=>by let⟨d,ι,S,Q,b,c,w,l⟩:=z;exact l _ ι H S (Ext.refl _ _) c w a b
def zsd(G:Gd T cf k N sc X)(g:N[i]?=Φ x)(f:zgM sc x=Γ)(h:PE X e (tE X.K cf j))(m:zbA e=Γ)(n:PSs X rest (tS X.K cf r)):
  PSs X (.Assign [.Name x p] e pos::rest) (tS X.K cf (.asg i j r)):=by
 refine PSs.imp (zaP (zkS (i:=i) (by rw[G.nm];exact G.nd) (by rw[G.nm];exact g) (G.lc f).1 h (zfj m _ _ _) (G.lc f).2) n) λE B H z=>?_;let⟨o,ι,S,Q,q,s,w,l⟩:=z;change W (Out.bind _ _) _ at w;simp![zab] at w;refine tE.run q s w λd v a C t u b c y A=>?_;exact⟨o.set i (Φ d),a,t,Q,b.set y i,c,A,l.up u⟩
def zpA(G:Gd T cf k N sc X)(I:N[i]?=Φ x)(a:∃t,PS X (.Assign [.Name x p] e pos) (tAsg t (zfU i))/\∀b H h,tE X.K cf j b H h->t b H h)(m:PSs X rest (tS X.K cf r)):
  PSs X (.Assign [.Name x p] e pos::rest) (tS X.K cf (.asg i j r)):=by
 let⟨t,n,o⟩:=a;refine PSs.imp (zaP n m) λE b H z=>?_;let⟨q,ι,S,Q,s,u,w,l⟩:=z;change W (Out.bind _ _) _ at w;simp![zab] at w;refine o _ _ _ (tE.run s u w λd v c J y A f g B C=>?_);exact⟨q.set i (Φ d),c,y,Q,f.set B i,g,C,l.up A⟩
def zpx(f:PE X e (tE X.K cf g))(h:zbA e=Γ)(i:PSs X rest (tS X.K cf r)):PSs X (.Expr e pos::rest) (tS X.K cf (.expr g r)):=by refine PSs.imp (zaP (zqn f (zfj h _ _ _)) i) λE t H z=>?_;let⟨j,ι,S,Q,m,n,w,l⟩:=z;change W (Out.bind _ _) _ at w;simp![zab] at w;refine tE.run m n w λd v a u o q b c x s=>?_;exact⟨j,a,o,Q,b,c,s,l.up q⟩
def zsa(b:PE X e (tE X.K cf c))(f:PSs X rest (tS X.K cf r)):PSs X (.Return (Φ e) pos::rest) (tS X.K cf (.ret c r)):=by refine PSs.imp (zaP (zkT b) f) λE q H z=>?_;let⟨s,ι,S,Q,g,h,w,l⟩:=z;change W (Out.bind _ _) _ at w;simp![zab,W_ok] at w;refine tE.run g h w λd v i t u j m a n o=>?_;exact l _ _ _ _ j a o v n
def zun(A:PT X c (tT X.K cf B))(C:PSs X a (tS X.K cf G))(I:PSs X b (tS X.K cf J))(L:PSs X rest (tS X.K cf r)):PSs X (.If c a b pos::rest) (tS X.K cf (.ifS B G J r)):=by
 refine PSs.imp (zaP (zsR A C I) L) λE σ H k=>?_;let⟨s,ι,S,Q,M,O,w,l⟩:=k;change W (Out.bind _ _) _ at w;simp![zab] at w;refine tT.run M O w λz e U t u h i x=>?_;have fin:LfS X.K e U (λf m=>W (match f with|.nx g=>exS cf r g m|.rt d=>.ok (.rt d) m) Q) {E with nx:=tS X.K cf r E}:=by intro f n H2 m y j q;cases f with|nx g=>exact λY o=>⟨g,n,m,Q,o,j,q,(l.up u).up y⟩|rt d=>exact λv rv=>(l.up u) _ _ _ _ y j q v rv
 cases z with|true=>exact⟨s,e,t,_,h,i,x,fin⟩|false=>exact⟨s,e,t,_,h,i,x,fin⟩
abbrev FInv(K:Frag)(cf:CF)(g:List Nat)(b:CS)(l:Fl->R.St->Prop)(ds:List D)(a:List Nat)(h:List Addr)(m:Hp)(d:R.St)(i:Nat)(j:L2.St)(H':Hp):Prop:=i<=ds.length/\∃c ι' e,RS K ι' H' c j/\Ltr K h m d a ι' H' e/\e.lk=a++d.lk/\d.len<=e.len/\W (zaM g (exS cf b) (ds.drop i) c e) λf n=>l f {n with lk:=d.lk}
def zsc(G:Gd T cf k N sc X)(hi:PI X tg e (tI X.K cf it))(hg:PG X tg (tG X.K is))(hb:PSs X body (tS X.K cf M))(t:za6 e=Γ)(hr:PSs X rest (tS X.K cf r)):
  PSs X (.For tg e body [] pos::rest) (tS X.K cf (.forS is it M r)):=by
 have hp:PassesOwn (model X.prog X.w) X.A X.env X.xe:=by rw[G.xe];exact PassesOwn.never
 refine PSs.imp (zaP (zoF hp G.calm hi hg hb (zhW t X.env)) hr) λE σ H y=>?_;let⟨δ,ι,S,Q,hs,hh,w,l⟩:=y;change W (Out.bind _ _) _ at w;simp![zab] at w;refine⟨δ,ι,S,_,hs,hh,w,λJ H1 y=>?_⟩;let⟨U,a,g,j,x1,Y,u,O⟩:=y;dsimp only at u;unfold zbj at u;rw[zab]at u;simp![W_ok]at u;refine⟨λi m A H'=>m=U.length-i/\FInv X.K cf is M (λf S2=>W (match f with|.nx b=>exS cf r b S2|.rt d=>.ok (.rt d) S2) Q) U a g H1 j i A H',⟨_,rfl,zero_le _,δ,g,{j with lk:=a++j.lk},hs.ext x1,⟨Ext.refl _ _,Y.lk _,λl _=>rfl⟩,rfl,le_refl _,u⟩,?_⟩;rintro i m A H' ⟨rfl,hle,b,ι',s,B,n,C,I,c⟩;have l1:=l.up (x1.trans n.ext);rcases Nat.lt_or_eq_of_le hle with o|rfl;refine .inr ⟨O.go i ι' H' s n o,FInv X.K cf is M _ U a g H1 j (i+1),λσ2 H2 h=>⟨_,by omega,rfl,h⟩,λx H2 hy=>?_⟩;let⟨x2,hh2,d,hd,rd⟩:=O.yld i ι' H' s x H2 n o hy;rw[zgY hd]at c;simp![zaM]at c;cases ea:asgG is d b with|none=>rw[ea]at c;exact c.elim| some q=>rw[ea]at c;dsimp only at c;rw[zab]at c;refine⟨b,ι',d,q,B.ext x2,rd,ea,λσ2 hs3=>⟨q,ι',s,_,hs3,hh2,(frS G.tab.frm M q s).w c,?_⟩⟩;rintro f ι3 H3 S3 x3 L ⟨w3,f3⟩;have k1:S3.lk=a++j.lk:=f3.lk.trans C;have k3:∀l∈a,S3.get l=j.get l:=λl hl=>(f3.same l (by rw[C];exact mem_append_left _ hl) (lt_of_lt_of_le (O.lks l hl) I)).trans (n.lck l hl);cases f with|nx δ3=>exact λσ3 hs4=>⟨o,δ3,ι3,S3,hs4,⟨(n.ext.trans x2).trans x3,L,k3⟩,k1,le_trans I f3.lens,w3⟩|rt z=>exact λv rv=>l1 _ _ _ _ (x2.trans x3) (L.lk _) w3 v rv
 refine .inl ⟨O.stop _ ι' H' s n (le_refl _),?_⟩;rw[List.drop_length]at c;simp![zaM,W_ok]at c;exact⟨b,ι',{s with lk:=j.lk},Q,B,n.rh.lk _,c,l1⟩
abbrev zsD(f g h:TE):TS:=λD d H=>h d H λv i=>f d i λx j=>g d j λy e=>∃a b k c,x=.ref a/\e a=Φ (.ext (TriO a b))/\TriK e b/\y=.ref c/\Key3 e k c/\b.length<sizeLine/\D.nx d (upd e a (.ext (TriO a (put3 b k c v))))
def zne(j:X.A.units+5<cLine)(l:PE X o m)(n:PE X i q)(t:PE X b w)(hs:swapsWith b (Φ (.Subscript o i f)) pos.line X.env=pure Δ):
  PS X (.Assign [.Subscript o i f] b pos) (zsD m q w):=by
 intro d s g H D I h;refine wpAny_Assign_Subscript (thn (t d s g H _ I h) λr A z=>eY z λv B C E G=>thn (l d A g B _ C G) λu J z=>eY z λx L M O Q=>thn (n d J g L _ M Q) λU s3 z=>?_) hs;let⟨y,H3,Y,ry,a,kxs,k,c,ex,e,tk,ec,ek,hl,q3⟩:=z;subst ex ec;obtain rfl:u=Ξ.ref a:=O;obtain rfl:U=Ξ.ref c:=ry;exact zjK j Y e tk ek hl E λs4 I4=>⟨g,_,I4,q3⟩
def zmE(G:Gd T cf k N sc X)(n:PE X a (tE X.K cf O))(h:PE X b (tE X.K cf U))(Y:PE X e (tE X.K cf ce))(hc:zbA e=Γ)(hr:PSs X rest (tS X.K cf r)):
  PSs X (.Assign [.Subscript a b p] e pos::rest) (tS X.K cf (.setIx O U ce r)):=by
 refine PSs.imp (zaP (zne (by have:=G.hu;lia) n h Y (zfj hc _ _ _)) hr) λE σ H z=>?_;let⟨δ,ι,S,Q,hs,hh,w,l⟩:=z;change W (Out.bind _ _) _ at w;simp![zab] at w;refine tE.run hs hh w λd v ι1 H1 S1 x1 o q r1 w1=>?_;refine tE.run o q w1 λx vx ι2 H2 S2 J s t r2 w2=>?_;refine tE.run s t w2 λy vy u H3 S3 A B g r3 j=>?_;cases f:zf0 S3 x y d with|none=>rw[f]at j;exact j.elim| some S4=>rw[f]at j;unfold zf0 Option.bind at f;split at f;split at f;rename_i i _ kvs e;split at f;exact nS f;rename_i kk ek;split at f;rename_i c;let⟨p,C,rfl⟩:=r2.ext A;let⟨b,L,nd,M,n,I⟩:=g.obj _ _ e;rw[C]at L;cases L;let⟨b,rfl,h⟩:=zqY r3 ek;have rv:=r1.ext (J.trans A);have m:=Ext.wr g e C (.ext (TriO p (put3 M kk b v)));exact⟨p,M,_,b,rfl,n,I.triK,rfl,h,by rw[I.length,Υ];exact c,δ,u,S4,Q,B.ext m,g.wr e C f ⟨zhB nd,_,zaf,(I.put rv h).up m.pre m.kp⟩,j,l.up (((x1.trans J).trans A).trans m)⟩;exact nS f;exact nS f;exact nS f
def zpv(G:Gd T cf k N sc X)(A:T.flds.contains f=Γ)(U:PE X a (tE X.K cf Y))(he:PE X e (tE X.K cf ce))(hc:zbA e=Γ)(hr:PSs X rest (tS X.K cf r)):
  PSs X (.Assign [.Attribute a f p] e pos::rest) (tS X.K cf (.setF Y f ce r)):=by
 refine PSs.imp (zaP (zsS U he (zfj hc _ _ _)) hr) λE σ H z=>?_;let⟨δ,ι,S,Q,hs,hh,w,l⟩:=z;change W (Out.bind _ _) _ at w;simp![zab] at w;refine tE.run hs hh w λd v ι1 H1 S1 x1 o q r1 w1=>?_;refine tE.run o q w1 λx vx s H2 B I t h r2 m=>?_;cases g:zbU B x f d with
 |none=>rw[g]at m;exact m.elim| some S3=>
  rw[g]at m;unfold zbU at g;cases x with
  |ref i=>
   let⟨b,u,rfl⟩:=r2;dsimp only at g;cases j:B.get i with
   |none=>rw[j]at g;exact nS g
   |some ob=>
    rw[j]at g;cases ob with
    |ins c fs=>let⟨b',J,C,y,L,M,hb,O⟩:=h.obj _ _ j;rw[u]at J;cases J;dsimp only at g;split at g;rename_i c2;let⟨_,_,cl,_,na⟩:=G.clsAt (.inl (ne_of A)) M;have rv:=r1.ext I;have n:=Ext.wr h j u (.ins C y (putF f v L));refine⟨b,C,y,L,rfl,hb,cl,na f A,by rw[O.length];exact c2,δ,s,S3,Q,t.ext n,h.wr j u g ⟨C,y,_,M,zaf,(O.put f rv).up n.pre n.kp⟩,m,l.up ((x1.trans I).trans n)⟩;exact nS g
    |_=>exact nS g
  |_=>exact nS g
def zpz(G:Gd T cf k N sc X)(n:zcx sc N is es=Γ)(o:2<=is.length)(s:PE X e (tE X.K cf t))(m:(∃x q,e=.Name x q)\/∃f as ks q,e=.Call f as ks q)(u:PSs X rest (tS X.K cf r)):
  PSs X (.Assign [.Tuple es j p] e pos::rest) (tS X.K cf (.asgT is t r)):=by
 have c:swapsWithSole [.Tuple es j p] e pos.line X.env=pure Δ:=by rcases m with⟨x,q,rfl⟩|⟨f,as,ks,q,rfl⟩<;>rfl
 have y:swappedStores [.Tuple es j p] e X.env=pure Ψ:=by rcases m with⟨x,q,rfl⟩|⟨f,as,ks,q,rfl⟩<;>rfl
 refine PSs.imp (zaP (zsT s (zot G n o) c y) u) λE Y H z=>?_;let⟨A,ι,S,Q,c,B,w,l⟩:=z;change W (Out.bind _ _) _ at w;simp![zab] at w;refine tE.run c B w λd v a H1 C I g h J L=>?_;let⟨b,M,O⟩:=zaw L;exact⟨A,a,d,b,g,J,M,λU i=>⟨b,a,C,Q,i,h,O,l.up I⟩⟩
def zpw(a:PSs X rest (tS X.K cf r)):PSs X (.Return Ψ pos::rest) (tS X.K cf (.retN r)):=by refine PSs.imp (zaP zqm a) λE c H z=>?_;let⟨d,ι,S,Q,e,b,w,l⟩:=z;exact l _ _ _ _ (Ext.refl _ _) b w .non rfl
end
abbrev zq0:CL->Bool|.comp ..=>Γ|_=>Δ
abbrev isR1:CL->Bool|.rng1 _=>Γ|_=>Δ
abbrev zlG:CL->Bool|.rng1 _=>Γ|.rng2 _ _=>Γ|.enum _=>Γ|_=>Δ
abbrev zlC:CL->Bool|.enum _=>Γ|_=>Δ
abbrev zlE:Expr->Bool|.Tuple _ _ _=>Γ|_=>Δ
abbrev zb3:Expr->List Str
 |.Name x _=>[x]|.Tuple a _ _=>a.filterMap λ|.Name x _=>Φ x|_=>Ψ
 |_=>[]
abbrev zrn(a scope:Scope)(N:List Str)(b:List Nat):Bool:=
 decide (scope.kind=.function)&&scope.names.all (λy=>decide (y.2≠.cell))&&scope.names.all (λy=>decide (y.2≠.local)||decide (scope.names.lookup y.1=Φ .local))
  && scope.names.all (λy=>decide (y.2≠.free)||decide (a.names.lookup y.1=Φ .cell)||decide (a.names.lookup y.1=Φ .free))&&b.all (λj=>decide (scope.names.lookup (N.getD j "")=Φ .free)&&decide (j<N.length))
abbrev nmB(x:Str):Bool:=!(x==("__debug__":Str))&&!(x==("__classdict__":Str))&&!(x==("__name__":Str))
abbrev tyB(t:String)(y:Str):Bool:=(t=="bool"&&y==("bool":Str))||(t=="int"&&y==("int":Str))||(t=="tuple"&&y==("tuple":Str))
abbrev biB:Bi->Str->Nat->Bool
 |.len,x,n=>x==("len":Str)&&n==1|.abs,x,n=>x==("abs":Str)&&n==1|.max2,x,n=>x==("max":Str)&&n==2|.min2,x,n=>x==("min":Str)&&n==2|.isin _,_,_=>Δ
abbrev zbV:Expr->Option Str|.Name x _=>Φ x|_=>Ψ
abbrev zdV:Expr->Option Const|.Constant c _ _=>Φ c|_=>Ψ
abbrev zm4:Expr->Option (Expr×Operator×Expr)|.BinOp l o r _=>Φ (l,o,r)|_=>Ψ
abbrev rdUn:Expr->Option (UnaryOp×Expr)|.UnaryOp o x _=>Φ (o,x)|_=>Ψ
abbrev zht:Expr->Option (Expr×List CmpOp×List Expr)|.Compare l os a _=>Φ (l,os,a)|_=>Ψ
abbrev zdW:Expr->Option (BoolOp×List Expr×Pos)|.BoolOp o a p=>Φ (o,a,p)|_=>Ψ
abbrev rdIf:Expr->Option (Expr×Expr×Expr)|.IfExp t x y _=>Φ (t,x,y)|_=>Ψ
abbrev zji:Expr->Option (List Expr)|.Tuple a _ _=>Φ a|_=>Ψ
abbrev zis:Expr->Option (List Expr)|.List a _=>Φ a|_=>Ψ
abbrev zkH:Expr->Option (Expr×Expr)|.Dict [Φ k] [v] _=>Φ (k,v)|_=>Ψ
abbrev zdT:Expr->Bool|.Dict a b _=>a.isEmpty&&b.isEmpty|_=>Δ
abbrev zhs:Expr->Option (Expr×Expr)|.Subscript x i _=>Φ (x,i)|_=>Ψ
abbrev zqa:Expr->Option Expr|.Slice Ψ Ψ (Φ s) _=>Φ s|_=>Ψ
abbrev rdSl:Expr->Option (Option Expr×Option Expr)|.Slice l u st _=>(match st with|none=>Φ (l,u)|some _=>Ψ)|_=>Ψ
abbrev zcP:Expr->Option (Expr×List Expr×List Keyword×Pos)|.Call f a b p=>Φ (f,a,b,p)|_=>Ψ
abbrev zcQ:Expr->Option (Expr×Str×Pos)|.Attribute o x p=>Φ (o,x,p)|_=>Ψ
abbrev rdLC:Expr->Option (Expr×List Comprehension×Scope×Pos)|.ListComp e a b p=>Φ (e,a,b,p)|_=>Ψ
section
variable{e l r x y i f:Expr}{xs rs as:List Expr}{ks:List Keyword}{p:Pos}
def zaX(h:zbV e=Φ n):∃p,e=.Name n p:=by cases e<;>first|(cases h;exact⟨_,rfl⟩)|exact nS h
def zdU(h:zdV e=Φ c):∃j p,e=.Constant c j p:=by cases e<;>first|(cases h;exact⟨_,_,rfl⟩)|exact nS h
def zkI(h:zm4 e=Φ (l,o,r)):∃p,e=.BinOp l o r p:=by cases e<;>first|(cases h;exact⟨_,rfl⟩)|exact nS h
def zfo(h:rdUn e=Φ (o,x)):∃p,e=.UnaryOp o x p:=by cases e<;>first|(cases h;exact⟨_,rfl⟩)|exact nS h
def zcO{os}(h:zht e=Φ (l,os,rs)):∃p,e=.Compare l os rs p:=by cases e<;>first|(cases h;exact⟨_,rfl⟩)|exact nS h
def zcj(h:zdW e=Φ (o,xs,p)):e=.BoolOp o xs p:=by cases e<;>first|(cases h;rfl)|exact nS h
def zm3(h:rdIf e=Φ (l,x,y)):∃p,e=.IfExp l x y p:=by cases e<;>first|(cases h;exact⟨_,rfl⟩)|exact nS h
def zdQ(h:zji e=Φ xs):∃j p,e=.Tuple xs j p:=by cases e<;>first|(cases h;exact⟨_,_,rfl⟩)|exact nS h
def zjk(h:zis e=Φ xs):∃p,e=.List xs p:=by cases e<;>first|(cases h;exact⟨_,rfl⟩)|exact nS h
def zdS(h:zdT e=Γ):∃p,e=.Dict [] [] p:=by
 cases e with
 |Dict ks a p=>
  cases ks with
  |cons _ _=>exact nB h
  |nil=>
   cases a with
   |cons _ _=>exact nB h
   |nil=>exact⟨_,rfl⟩
 |_=>exact nB h
def zcN(h:zhs e=Φ (x,i)):∃p,e=.Subscript x i p:=by cases e<;>first|(cases h;exact⟨_,rfl⟩)|exact nS h
def zkC(h:zqa e=Φ b):∃p,e=.Slice Ψ Ψ (Φ b) p:=by unfold zqa at h;split at h<;>first|(cases h;exact⟨_,rfl⟩)|exact nS h
def zm2(h:rdSl e=Φ (a,b)):∃p,e=.Slice a b Ψ p:=by
 cases e with
 |Slice l u st p=>cases st with|none=>cases h;exact⟨_,rfl⟩|some _=>exact nS h
 |_=>exact nS h
def zda(h:zcP e=Φ (f,as,ks,p)):e=.Call f as ks p:=by cases e<;>first|(cases h;rfl)|exact nS h
def zck(h:zcQ e=Φ (x,n,p)):e=.Attribute x n p:=by cases e<;>first|(cases h;rfl)|exact nS h
def zit(h:rdLC e=Φ (x,gs,a,p)):e=.ListComp x gs a p:=by cases e<;>first|(cases h;rfl)|exact nS h
end
def zac{a:Type}{o:Option a}{f:a->Bool}(h:o.any f=Γ):∃x,o=Φ x/\f x=Γ:=by
 cases o with
 |none=>exact nB h
 |some x=>exact⟨x,rfl,h⟩
abbrev one{a:Type}:List a->Option a | [x]=>Φ x|_=>Ψ
def zbz(h:one xs=Φ x):xs=[x]:=by match xs,h with| [y],h=>cases h;rfl
abbrev two{a:Type}:List a->Option (a×a) | [x,y]=>Φ (x,y)|_=>Ψ
def two_inv(h:two xs=Φ (x,y)):xs=[x,y]:=by match xs,h with| [a,b],h=>cases h;rfl
abbrev zba(e:Expr):Option (Str×List Expr):=(zcP e).bind λq=>if q.2.2.1.isEmpty then(zbV q.1).map λx=>(x,q.2.1) else Ψ
def zaN(h:zba e=Φ (x,as)):∃p2 p,e=.Call (.Name x p2) as [] p:=by
 unfold zba at h;cases q:zcP e with
 |none=>rw[q]at h;exact nS h
 |some z=>
  let⟨f,d,b,p⟩:=z;rw[q]at h;dsimp only[bind_some]at h;split at h;rename_i c;cases a:zbV f with
  |none=>rw[a]at h;exact nS h
  |some y=>
   rw[a]at h;let⟨p2,rfl⟩:=zaX a;cases b with
   |cons _ _=>exact nB c
   |nil=>cases h;exact⟨p2,p,zda q⟩
  exact nS h
abbrev zkB:Expr->Option (Expr×Expr)
 |.Call (.Name x _) [o] [⟨Φ k,l,_⟩] _=>if x="sorted"/\k="key" then Φ (o,l) else Ψ|_=>Ψ
def zkA(h:zkB e=Φ (o,l)):∃p1 p2 p3,e=.Call (.Name "sorted" p1) [o] [⟨Φ "key",l,p2⟩] p3:=by unfold zkB at h;split at h;split at h;rename_i c;let⟨rfl,rfl⟩:=c;cases h;exact⟨_,_,_,rfl⟩;exact nS h;exact nS h
abbrev za2(e:Expr):Option (Str×Expr):=(zba e).bind λq=>(one q.2).map λa=>(q.1,a)
def zaB(h:za2 e=Φ (x,a)):∃p2 p,e=.Call (.Name x p2) [a] [] p:=by
 unfold za2 at h;cases q:zba e with
 |none=>rw[q]at h;exact nS h
 |some z=>
  let⟨y,d⟩:=z;rw[q]at h;dsimp only[bind_some]at h;cases c:one d with
  |none=>rw[c]at h;exact nS h
  |some b=>rw[c]at h;cases h;rw[zbz c]at q;exact zaN q
abbrev zdR(e:Expr):Option (Expr×Str×Pos×Expr×Pos):=(zcP e).bind λq=>if q.2.2.1.isEmpty then(zcQ q.1).bind λa=>(one q.2.1).map λy=>(a.1,a.2.1,a.2.2,y,q.2.2.2) else Ψ
def zc9(h:zdR e=Φ (o,x,i,a,j)):e=.Call (.Attribute o x i) [a] [] j:=by
 unfold zdR at h;cases q:zcP e with
 |none=>rw[q]at h;exact nS h
 |some z=>
  let⟨f,k,l,p⟩:=z;rw[q]at h;dsimp only[bind_some]at h;split at h;rename_i c;cases d:zcQ f with
  |none=>rw[d]at h;exact nS h
  |some y=>
   let⟨n,r,m⟩:=y;rw[d]at h;dsimp only[bind_some]at h;cases g:one k with
   |none=>rw[g]at h;exact nS h
   |some b=>
    rw[g]at h;cases h;cases l with
    |cons _ _=>exact nB c
    |nil=>rw[zda q,zck d,zbz g]
  exact nS h
abbrev zb6(e:Expr):Option (Expr×Str×Pos×List Expr×Pos):=(zcP e).bind λq=>if q.2.2.1.isEmpty then(zcQ q.1).map λa=>(a.1,a.2.1,a.2.2,q.2.1,q.2.2.2) else Ψ
def zbN(h:zb6 e=Φ (o,x,b,as,d)):e=.Call (.Attribute o x b) as [] d:=by
 unfold zb6 at h;cases q:zcP e with
 |none=>rw[q]at h;exact nS h
 |some z=>
  let⟨f,j,g,p⟩:=z;rw[q]at h;dsimp only[bind_some]at h;split at h;rename_i c;cases a:zcQ f with
  |none=>rw[a]at h;exact nS h
  |some y=>
   let⟨k,l,i⟩:=y;rw[a]at h;cases h;cases g with
   |cons _ _=>exact nB c
   |nil=>rw[zda q,zck a]
  exact nS h
abbrev fnB(T:Tab)(f j:Nat)(x:Str):Bool:=match T.fns[f]? with|some (y,_,a)=>(y==x)&&decide (j<=a)|none=>Δ
abbrev conG(T:Tab)(d:D)(x:Str):Bool:=match T.cons.lookup x with|some a=>eqC a d|none=>Δ
abbrev zvf:CE->Bool|.con _=>Γ|_=>Δ
abbrev zhQ:CL->Bool|.comp ..=>Γ|_=>Δ
abbrev zlF:CE->Bool|.tst (.con (.bl Γ))=>Γ|_=>Δ
abbrev zqF:CEs->Bool|.cons _ .nil=>Γ|_=>Δ
abbrev ztr:CE->Option Nat|.loc i=>Φ i|_=>Ψ
def zlh(h:ztr a=Φ i):a=.loc i:=by cases a<;>first|(cases h;rfl)|exact nS h
abbrev zqH:CEs->Bool|.nil=>Γ|_=>Δ
abbrev mtN:Mt->Str->Bool
 |.append,x=>x==("append":Str)|.popAt,x=>x==("pop":Str)|.count,x=>x==("count":Str)
abbrev zuR:Bi->Option String|.isin t=>Φ t|_=>Ψ
abbrev tgB(a:Scope)(N:List Str)(g:List Nat)(b:Expr):Bool:=match zbV b with|some x=>(match one g with|some i=>(N[i]?==Φ x)&&zgM a x|none=>Δ)|none=>(zji b).any λc=>decide (2<=g.length)&&zcx a N g c
mutual
noncomputable def chkE(T:Tab)(e₀:CE)(N:List Str)(sc:Scope)(e:Expr):Bool:=match e₀ with
 |.loc i=>(zbV e).any λx=>(N[i]?==Φ x)&&zlD sc x&&nmB x|.con d=>(zdV e).any (λc=>conB d c)||(zbV e).any λx=>isGl sc x&&conG T d x&&nmB x
 |.tst _=>Δ|.bin op a b=>(zm4 e).any λq=>decide (q.2.1=op)&&chkE T a N sc q.1&&chkE T b N sc q.2.2|.neg a=>(rdUn e).any λq=>decide (q.1=.USub)&&chkE T a N sc q.2|.nt a=>(rdUn e).any λq=>decide (q.1=.Not)&&chkE T a N sc q.2|.cmp op a b=>(zht e).any λq=>decide (q.2.1=[op])&&(one q.2.2).any λr=>za6 r&&chkE T a N sc q.1&&chkE T b N sc r|.cmp2 op op' a b c=>(zht e).any λq=>decide (q.2.1=[op,op'])&&(two q.2.2).any λr=>za6 r.1&&za6 r.2&&chkE T a N sc q.1&&chkE T b N sc r.1&&chkE T c N sc r.2
 |.and a b=>(zdW e).any λq=>decide (q.1=.And)&&(match q.2.1 with
  |x::y::rest=>chkE T a N sc x&&(if rest.isEmpty then chkE T b N sc y else chkE T b N sc (.BoolOp .And (y::rest) q.2.2))|_=>Δ)
 |.or a b=>(zdW e).any λq=>decide (q.1=.Or)&&(match q.2.1 with
  |x::y::rest=>chkE T a N sc x&&(if rest.isEmpty then chkE T b N sc y else chkE T b N sc (.BoolOp .Or (y::rest) q.2.2))|_=>Δ)
 |.ite c a b=>(rdIf e).any λq=>chkT T c N sc q.1&&chkE T a N sc q.2.1&&chkE T b N sc q.2.2|.tup es=>(zji e).any λxs=>zc0 T es N sc xs|.lst es=>(zis e).any λxs=>zc0 T es N sc xs|.dnew=>zdT e|.dnew3=>zdT e|.srtK a=>(zkB e).any λq=>(((bltB T sc "sorted"&&zao q.1)&&lamB q.2)&&decide (N=T.lam))&&chkE T a N sc q.1|.dgetI a b c=>(zb6 e).any λq=>(two q.2.2.2.1).any λz=>(q.2.1==("get":Str))&&zao z.1&&zao z.2&&zbd q.1&&(q.2.2.1.endLine==q.2.2.2.2.line)&&chkE T a N sc q.1&&chkE T b N sc z.1&&chkE T c N sc z.2|.dsetI a b c=>(zb6 e).any λq=>(two q.2.2.2.1).any λz=>(q.2.1==("setdefault":Str))&&zao z.1&&zao z.2&&zbd q.1&&(q.2.2.1.endLine==q.2.2.2.2.line)&&chkE T a N sc q.1&&chkE T b N sc z.1&&chkE T c N sc z.2|.extv a b=>(zdR e).any λq=>(q.2.1==("extend":Str))&&zao q.2.2.2.1&&zbd q.1&&(q.2.2.1.endLine==q.2.2.2.2.line)&&chkE T a N sc q.1&&chkE T b N sc q.2.2.2.1|.fld a f=>(zcQ e).any λq=>decide (q.2.1=f)&&zbd q.1&&T.flds.contains f&&chkE T a N sc q.1|.mk c f x j es=>(zba e).any λq=>decide (q.1=x)&&isGl sc x&&nmB x&&decide (T.cls[c]?=Φ x)&&T.inits.contains (c,f,j)&&(!q.2.isEmpty||zqH es)&&zc0 T es N sc q.2|.meth m tb o es=>(zb6 e).any λq=>decide (q.2.1=m)&&mtB T m tb&&zbd q.1&&(q.2.2.1.endLine==q.2.2.2.2.line)&&decide (q.2.2.2.1.length<29)&&(!q.2.2.2.1.isEmpty||zqH es)&&chkE T o N sc q.1&&zc0 T es N sc q.2.2.2.1|.callC f x m es=>(zb6 e).any λq=>(zbV q.1).any λy=>decide (y=x)&&decide (q.2.1=m)&&isGl sc x&&nmB x&&T.cms.contains (x,m,f)&&(q.2.2.1.endLine==q.2.2.2.2.line)&&decide (q.2.2.2.1.length<29)&&!q.2.2.2.1.isEmpty&&zc0 T es N sc q.2.2.2.1|.callV a es=>(zba e).any λq=>(ztr a).any λi=>(N[i]?==Φ q.1)&&zlD sc q.1&&nmB q.1&&!q.2.isEmpty&&zc0 T es N sc q.2|.ix a b=>(zhs e).any λq=>zfC q.2&&chkE T a N sc q.1&&chkE T b N sc q.2|.sl a n=>(zhs e).any λq=>(rdSl q.2).any λs=>s.1.isNone&&s.2.any λz=>(zdV z).any (λc=>conB (.int n) c)&&chkE T a N sc q.1|.intb a=>(za2 e).any λq=>(q.1==("int":Str))&&bltB T sc q.1&&zao q.2&&chkE T a N sc q.2|.slS a b=>(zhs e).any λq=>(zqa q.2).any λs=>chkE T a N sc q.1&&chkE T b N sc s|.call f j es=>(zba e).any λq=>isGl sc q.1&&nmB q.1&&fnB T f j q.1&&(!q.2.isEmpty||zqH es)&&zc0 T es N sc q.2|.callW f j es=>(zba e).any λq=>isGl sc q.1&&nmB q.1&&fnB T f j q.1&&!q.2.isEmpty&&zc0 T es N sc q.2
 |.bi b es=>(zba e).any λq=>bltB T sc q.1&&nmB q.1&&(match zuR b with
  |some t=>(two q.2).any λz=>(zbV z.2).any λy=>(q.1==("isinstance":Str))&&tyB t y&&bltB T sc y&&nmB y&&zqF es&&zc0 T es N sc [z.1]|none=>biB b q.1 q.2.length&&!q.2.isEmpty&&zc0 T es N sc q.2)
 |.mt m o es=>(zdR e).any λq=>mtN m q.2.1&&zbd q.1&&(q.2.2.1.endLine==q.2.2.2.2.line)&&zqF es&&chkE T o N sc q.1&&zc0 T es N sc [q.2.2.2.1]
 |.mkL l=>if zhQ l then((rdLC e).isSome&&chkL T l N sc e)
  else(za2 e).any λq=>(q.1==("list":Str))&&bltB T sc q.1&&zao q.2&&(!(zlG l)||isR1 l)&&chkL T l N sc q.2
 |.mkT l=>(za2 e).any λq=>(q.1==("tuple":Str))&&bltB T sc q.1&&zao q.2&&!(zlG l)&&chkL T l N sc q.2|.all l=>(za2 e).any λq=>(q.1==("all":Str))&&bltB T sc q.1&&zao q.2&&!(zlG l)&&chkL T l N sc q.2|.ext a l=>(zdR e).any λq=>(q.2.1==("extend":Str))&&zao q.2.2.2.1&&zbd q.1&&(q.2.2.1.endLine==q.2.2.2.2.line)&&zq0 l&&chkE T a N sc q.1&&chkL T l N sc q.2.2.2.1|.lenset l=>(za2 e).any λq=>(za2 q.2).any λz=>(q.1==("len":Str))&&bltB T sc q.1&&(z.1==("set":Str))&&bltB T sc z.1&&zao z.2&&!(zlG l)&&chkL T l N sc z.2|.sset a=>(za2 e).any λq=>(za2 q.2).any λz=>(q.1==("sorted":Str))&&bltB T sc q.1&&(z.1==("set":Str))&&bltB T sc z.1&&zao z.2&&chkE T a N sc z.2
noncomputable def zc0(T:Tab)(e₀:CEs)(N:List Str)(sc:Scope)(es:List Expr):Bool:=match e₀ with|.nil=>es.isEmpty|.cons a r=>(match es with | []=>Δ|e::es=>zao e&&chkE T a N sc e&&zc0 T r N sc es)
noncomputable def chkT(T:Tab)(e₀:CE)(N:List Str)(sc:Scope)(e:Expr):Bool:=match e₀ with
 |.cmp op a b=>(zht e).any λq=>decide (q.2.1=[op])&&(one q.2.2).any λr=>za6 r&&chkE T a N sc q.1&&chkE T b N sc r|.cmp2 op op' a b c=>(zht e).any λq=>decide (q.2.1=[op,op'])&&(two q.2.2).any λr=>za6 r.1&&za6 r.2&&chkE T a N sc q.1&&chkE T b N sc r.1&&chkE T c N sc r.2|.nt a=>(rdUn e).any λq=>decide (q.1=.Not)&&chkT T a N sc q.2
 |.and a b=>(zdW e).any λq=>decide (q.1=.And)&&(match q.2.1 with
  |x::y::rest=>chkT T a N sc x&&(if rest.isEmpty then chkT T b N sc y else chkT T b N sc (.BoolOp .And (y::rest) q.2.2))|_=>Δ)
 |.or a b=>(zdW e).any λq=>decide (q.1=.Or)&&(match q.2.1 with
  |x::y::rest=>chkT T a N sc x&&(if rest.isEmpty then chkT T b N sc y else chkT T b N sc (.BoolOp .Or (y::rest) q.2.2))|_=>Δ)
 |.tst a=>zix e&&chkE T a N sc e|_=>Δ
noncomputable def chkL(T:Tab):CL->List Str->Scope->Expr->Bool
 |.val a,N,sc,e=>za6 e&&chkE T a N sc e|.rng1 a,N,sc,e=>(za2 e).any λq=>(q.1==("range":Str))&&bltB T sc q.1&&zao q.2&&chkE T a N sc q.2|.rng2 a b,N,sc,e=>(zba e).any λq=>(two q.2).any λz=>(q.1==("range":Str))&&bltB T sc q.1&&zao z.1&&zao z.2&&chkE T a N sc z.1&&chkE T b N sc z.2|.enum a,N,sc,e=>(za2 e).any λq=>(q.1==("enumerate":Str))&&bltB T sc q.1&&zao q.2&&chkE T a N sc q.2
 |.comp nt js g it c e,N,sc,ex=>(rdLC ex).any λq=>(one q.2.1).any λz=>decide (z.is_async=0)&&zrn sc q.2.2.1 N js&&(za6 z.iter&&(zlE z.target||!(zlC it)))&&chkL T it N sc z.iter&&decide ((zb3 z.target).length=nt)&&decide ((capN N (zb3 z.target) js).Nodup/\capN N (zb3 z.target) js≠T.lam)
  && tgB q.2.2.1 (capN N (zb3 z.target) js) g z.target
  && (if z.ifs.isEmpty then zlF c else(one z.ifs).any λt=>chkT T c (capN N (zb3 z.target) js) q.2.2.1 t)
  && chkE T e (capN N (zb3 z.target) js) q.2.2.1 q.1
end
abbrev zjl:Stmt->Option (Expr×Expr×Pos)|.Assign a v p=>(one a).map λt=>(t,v,p)|_=>Ψ
abbrev zsJ:Stmt->Option (Expr×List Stmt×List Stmt)|.If e a b _=>Φ (e,a,b)|_=>Ψ
abbrev zqc:Stmt->Option (Expr×Expr×List Stmt)|.For c d b a _=>if a.isEmpty then Φ (c,d,b) else Ψ|_=>Ψ
abbrev zqb:Stmt->Option Expr|.Return v _=>v|_=>Ψ
abbrev zsK:Stmt->Option Expr|.Expr v _=>Φ v|_=>Ψ
abbrev zoE:Stmt->Bool|.Return Ψ _=>Γ|_=>Δ
section
variable{s:Stmt}{e v tg it:Expr}{a b:List Stmt}{p:Pos}
def zcR(h:zjl s=Φ (tg,v,p)):s=.Assign [tg] v p:=by
 cases s with
 |Assign c v p=>
  simp![zjl]at h;cases q:one c with
  |none=>rw[q]at h;exact nS h
  |some t=>rw[q]at h;cases h;rw[zbz q]
 |_=>exact nS h
def zkE(h:zsJ s=Φ (e,a,b)):∃p,s=.If e a b p:=by cases s<;>first|(cases h;exact⟨_,rfl⟩)|exact nS h
def zkF(h:zqc s=Φ (tg,it,b)):∃p,s=.For tg it b [] p:=by
 cases s with
 |For tg it b c p=>cases c with|nil=>cases h;exact⟨_,rfl⟩|cons _ _=>exact nS h
 |_=>exact nS h
def zkD(h:zqb s=Φ e):∃p,s=.Return (Φ e) p:=by cases s with|Return v p=>replace h:v=Φ e:=h;subst h;exact⟨_,rfl⟩|_=>exact nS h
def zkG(h:zsK s=Φ e):∃p,s=.Expr e p:=by cases s<;>first|(cases h;exact⟨_,rfl⟩)|exact nS h
def zjj(h:zoE s=Γ):∃p,s=.Return Ψ p:=by
 cases s with
 |Return v p=>cases v with|none=>exact⟨_,rfl⟩|some _=>exact nB h
 |_=>exact nB h
end
abbrev chkS(T:Tab)(j:CS)(N:List Str)(h:Scope)(st:List Stmt):Bool:=match j with|.nil=>st.isEmpty|.stop=>Γ|.asg i e r=>(match st with | []=>Δ|s::d=>(zjl s).any λq=>(zbV q.1).any λx=>(N[i]?==Φ x)&&zgM h x&&chkE T e N h q.2.1&&chkS T r N h d)|.asgT g e r=>(match st with | []=>Δ|s::d=>(zjl s).any λq=>(zji q.1).any λk=>((zbV q.2.1).isSome||(zba q.2.1).isSome)&&decide (2<=g.length)&&zcx h N g k&&chkE T e N h q.2.1&&chkS T r N h d)|.setIx a b e r=>(match st with | []=>Δ|s::d=>(zjl s).any λq=>(zhs q.1).any λz=>zbA q.2.1&&chkE T a N h z.1&&chkE T b N h z.2&&chkE T e N h q.2.1&&chkS T r N h d)|.setF a f e r=>(match st with | []=>Δ|s::d=>(zjl s).any λq=>(zcQ q.1).any λz=>decide (z.2.1=f)&&T.flds.contains f&&zbA q.2.1&&chkE T a N h z.1&&chkE T e N h q.2.1&&chkS T r N h d)|.ifS c t u r=>(match st with | []=>Δ|s::d=>(zsJ s).any λq=>chkT T c N h q.1&&chkS T t N h q.2.1&&chkS T u N h q.2.2&&chkS T r N h d)|.forS g l b r=>(match st with | []=>Δ|s::d=>(zqc s).any λq=>za6 q.2.1&&chkL T l N h q.2.1&&chkS T b N h q.2.2&&chkS T r N h d&&(tgB h N g q.1&&(zlE q.1||!(zlC l))))|.retN r=>(match st with | []=>Δ|s::d=>zoE s&&chkS T r N h d)|.ret e r=>(match st with | []=>Δ|s::d=>(zqb s).any λv=>chkE T e N h v&&chkS T r N h d)|.expr e r=>(match st with | []=>Δ|s::d=>(zsK s).any λv=>zbA v&&chkE T e N h v&&chkS T r N h d)
end R
section
set_option maxHeartbeats 8000000
namespace R
open PySem PySem.Spec PyProof.Rows L2
variable[Mks]
section
variable{T:Tab}{cf:CF}{k:Nat}{N:List Str}{sc:Scope}{X:Cx}
def zb9(env)(x):∀{names:List (Str×NameKind)}{a:NameKind},names.lookup x=Φ a->a≠.free->(names.map (zcu env)).lookup x=Φ a
 | [],_,h,_=>by simp at h| y::r,a,h,c=>by
  rw[Ν];have d:=zdP env y;have b:=zdO env y;let⟨n,f⟩:=y;generalize l:zcu env (n,f)=z at *;let⟨i,j⟩:=z;simp only at d b;subst d;rw[Ϣ]at h⊢;cases g:x==i with
  |true=>rw[g]at h;have e:f=a:=Option.some.inj h;subst e;rcases b with b|⟨q,_⟩;show Φ j=_;rw[b];exact absurd q c
  |false=>rw[g]at h;exact zb9 env x h c
def ziX(G:Gd T cf k N sc X)(h:zrn sc scope N b=Γ):CompOk X.env.scope scope X.N b:=by unfold zrn at h;simp![Ε,all_eq_true,decide_eq_true_eq,Ϝ]at h;let⟨⟨⟨⟨c,d⟩,f⟩,g⟩,i⟩:=h;refine⟨c,d,λy a e=>?_,λy a e=>?_,λj l=>?_⟩;rcases f y a with z|z;exact absurd e z;exact z;rcases g y a with (z|z)|z;exact absurd e z;exact .inl (G.cell _ z);exact(G.free _ z).symm;rw[G.nm];exact i j l
def zlV(G:Gd T cf k N sc X)(ok:CompOk X.env.scope scope X.N b)(d:(capN N tgs b).Nodup/\capN N tgs b≠T.lam)(cl)(C)(f)(s)(H)(pn):
  Gd T cf k (capN N tgs b) scope (zaI X (capN X.N tgs b) scope cl C f s H pn):=by
 have a:(zaI X (capN X.N tgs b) scope cl C f s H pn).env.scope.names=scope.names.map (zcu X.env):=zbL scope X.env;have c:∀x,scope.names.lookup x≠Φ .cell:=λx e=>ok.nocell _ (ϓ e) rfl;refine⟨by rw[<-G.nm],d.1,λx e=>?_,λx e=>absurd e (c x),λx e=>?_,λx e=>?_,.inr c,G.calm,rfl,G.room',G.tab,λz=>absurd z d.2⟩;rw[a];exact zb9 _ _ e (by decide);rw[a];exact zbM _ _ _ e;rw[a];exact zb9 _ _ e (by decide)
def zcV(h:nmB x=Γ):(x==("__debug__":Str))=Δ/\(x==("__classdict__":Str))=Δ/\x≠("__name__":Str):=by unfold nmB at h;simp![Ε,ϟ]at h;exact⟨h.1.1,h.1.2,λe=>by rw[e]at h;simp at h⟩
def zrS(h:tyB t y=Γ):t∈["bool","int","str","list","tuple","dict"]/\bootBuiltins y=Φ (.type t):=by unfold tyB at h;simp![Ϝ,Ε,beq_iff_eq]at h;rcases h with (⟨rfl,rfl⟩|⟨rfl,rfl⟩)|⟨rfl,rfl⟩;exact⟨by simp,zrv⟩;exact⟨by simp,zpc⟩;exact⟨by simp,zi3⟩
def zo0(h:fnB T f j x=Γ):∃ps a,T.fns[f]?=Φ (x,ps,a)/\j<=a:=by
 unfold fnB at h;cases e:T.fns[f]? with
 |none=>rw[e]at h;exact nB h
 |some q=>let⟨y,ps,a⟩:=q;rw[e]at h;simp![Ε,beq_iff_eq,decide_eq_true_eq]at h;let⟨rfl,b⟩:=h;exact⟨ps,a,rfl,b⟩
def zaJ:∀{b:CEs}{N:List Str}{sc:Scope}{es:List Expr},zc0 T b N sc es=Γ->es.all zao=Γ
 |.nil,N,sc,es,h=>by obtain rfl:=isEmpty_iff.mp h;rfl| .cons a r,N,sc,es,h=>by
  cases es with
  |nil=>exact nB h
  |cons e es=>replace h:=(Ε _ _).mp h;simp[((Ε _ _).mp h.1).1,zaJ h.2]
def ziY(h:zqF es=Γ):∃a,es=.cons a .nil:=by
 cases es with
 |nil=>exact nB h
 |cons a r=>cases r with|nil=>exact⟨a,rfl⟩|cons _ _=>exact nB h
def zjN(G:Gd T cf k N sc X)(h:biB b x n=Γ):∃id,zbn X (.builtin id) (rB X.K λS ds=>R.bi S b ds)/\bootBuiltins x=Φ (.builtin id):=by cases b with|len=>simp![biB,Ε,beq_iff_eq]at h;rw[h.1];exact⟨_,ztu,zpb⟩|abs=>simp![biB,Ε,beq_iff_eq]at h;rw[h.1];exact⟨_,zt8,zt4⟩|max2=>simp![biB,Ε,beq_iff_eq]at h;rw[h.1];exact⟨_,ztj G.calm,zt2⟩|min2=>simp![biB,Ε,beq_iff_eq]at h;rw[h.1];exact⟨_,zti G.calm,zt1⟩|isin t=>simp[biB]at h
abbrev LOk(T:Tab)(cf:CF)(k:Nat)(cl:CL)(X:Cx)(e:Expr):Prop:=(zlG cl=Δ->PE X e (tL X.K cf cl))/\(zq0 cl=Γ->PE X e (tLt X.K cf cl))/\(∀c,(zlE c||!(zlC cl))=Γ->PI X c e (tI X.K cf cl))/\
 ∀a,cl=.rng1 a->∃b d p,e=.Call (.Name "range" d) [b] [] p/\(Gl X "range"/\X.mg "range"=Ψ)/\PE X b (tE X.K cf a)/\zao b=Γ
abbrev EsOk(cf:CF)(b:CEs)(X:Cx)(es:List Expr):Prop:=PA X es (tAs X.K cf b)/\∀a r e c,b=.cons a r->es=e::c->PE X e (tE X.K cf a)
def zpn(G:Gd T cf k N sc X)(h:tgB sc N g a=Γ):PG X a (tG X.K g):=by unfold tgB at h;split at h;rename_i x q;let⟨p,rfl⟩:=zaX q;split at h;rename_i i b;rw[zbz b];replace h:=qb1 h;exact zpF G h.1 h.2;exact nB h;replace h:=zac h;let⟨c,q,h⟩:=h;let⟨j,p,rfl⟩:=zdQ q;replace h:=qd1 h;exact zot G h.2 h.1
def zif(h:zlF c=Γ):PTs X [] (tT X.K cf c):=by
 have f:c=.tst (.con (.bl Γ)):=by
  cases c with
  |tst a=>
   cases a with
   |con d=>
    cases d with
    |bl b=>cases b with|true=>rfl|false=>exact nB h
    |_=>exact nB h
   |_=>exact nB h
  |_=>exact nB h
 subst f;intro e g i H' j I q;refine zqk e g i H' j I ?_;let⟨m,ι,S,Q,n,l,w,q⟩:=q;exact q _ _ ⟨ι,S,Ext.refl _ _,l,w⟩
def za0{x y:Str}(h:(x==y)=Γ):x=y:=by simpa using h
mutual
theorem zag:∀(ce:CE){N:List Str}{sc:Scope}{e:Expr}{X:Cx},Gd T cf k N sc X->chkE T ce N sc e=Γ->PE X e (tE X.K cf ce)
 |.loc i,N,sc,e,X,G,h=>by replace h:=zac h;let⟨x,q,h⟩:=h;let⟨p,rfl⟩:=zaX q;replace h:=qL qb1 h;let⟨h1,h2,_⟩:=zcV h.2;exact zow G h.1.1 h.1.2 h1 h2| .con d,N,sc,e,X,G,h=>by replace h:=(Ϝ _ _).mp h;rcases h with h|h;replace h:=zac h;let⟨c,q,h⟩:=h;let⟨j,p,rfl⟩:=zdU q;exact zox h;replace h:=zac h;let⟨x,q,h⟩:=h;let⟨p,rfl⟩:=zaX q;replace h:=qL qa1 h;let⟨h1,h2,_⟩:=zcV h.2;have h3:=h.1.2;unfold conG at h3;split at h3;rename_i d' e';exact zpQ G h.1.1 e' h3 h1;exact nB h3
 |.tst a,N,sc,e,X,G,h=>by exact nB h| .bin op a b,N,sc,e,X,G,h=>by replace h:=zac h;let⟨⟨l,o,r⟩,q,h⟩:=h;let⟨p,rfl⟩:=zkI q;replace h:=qL qd1 h;let⟨⟨rfl,h1⟩,h2⟩:=h;exact zst (zag a G h1) (zag b G h2)| .neg a,N,sc,e,X,G,h=>by replace h:=zac h;let⟨⟨o,x⟩,q,h⟩:=h;let⟨p,rfl⟩:=zfo q;replace h:=qd1 h;let⟨rfl,h1⟩:=h;exact zsk (zag a G h1)| .nt a,N,sc,e,X,G,h=>by replace h:=zac h;let⟨⟨o,x⟩,q,h⟩:=h;let⟨p,rfl⟩:=zfo q;replace h:=qd1 h;let⟨rfl,h1⟩:=h;exact zup (zag a G h1)| .cmp op a b,N,sc,e,X,G,h=>by replace h:=zac h;let⟨⟨l,os,rs⟩,q,h⟩:=h;let⟨p,rfl⟩:=zcO q;replace h:=qd1 h;let⟨e1,h⟩:=h;replace h:=zac h;let⟨r,q2,h⟩:=h;cases zbz q2;cases e1;replace h:=qL qa1 h;exact zss G (zag a G h.1.2) (zag b G h.2) h.1.1| .cmp2 op op' a b c,N,sc,e,X,G,h=>by replace h:=zac h;let⟨⟨l,os,rs⟩,q,h⟩:=h;let⟨p,rfl⟩:=zcO q;replace h:=qd1 h;let⟨e1,h⟩:=h;replace h:=zac h;let⟨⟨r,r'⟩,q2,h⟩:=h;cases two_inv q2;cases e1;replace h:=qL (qL (qL qa1)) h;let⟨⟨⟨⟨h1,h2⟩,h3⟩,h4⟩,h5⟩:=h;exact zpT G (zag a G h3) (zag b G h4) (zag c G h5) h1 h2| .and a b,N,sc,e,X,G,h=>by replace h:=zac h;let⟨⟨o,vs,p⟩,q,h⟩:=h;cases zcj q;replace h:=qd1 h;let⟨e1,h⟩:=h;cases e1;dsimp only at h;split at h;rename_i x y rest;replace h:=qa1 h;let⟨h1,h2⟩:=h;split at h2;rename_i c;cases isEmpty_iff.mp c;exact zoy (zag a G h1) (zoI (zag b G h2));exact zoy (zag a G h1) (zag b G h2);exact nB h
 |.or a b,N,sc,e,X,G,h=>by replace h:=zac h;let⟨⟨o,vs,p⟩,q,h⟩:=h;cases zcj q;replace h:=qd1 h;let⟨e1,h⟩:=h;cases e1;dsimp only at h;split at h;rename_i x y rest;replace h:=qa1 h;let⟨h1,h2⟩:=h;split at h2;rename_i c;cases isEmpty_iff.mp c;exact zsj (zag a G h1) (zoI (zag b G h2));exact zsj (zag a G h1) (zag b G h2);exact nB h
 |.ite c a b,N,sc,e,X,G,h=>by replace h:=zac h;let⟨⟨t,x,y⟩,q,h⟩:=h;let⟨p,rfl⟩:=zm3 q;replace h:=qL qa1 h;exact zsp (zbc c G h.1.1).1 (zag a G h.1.2) (zag b G h.2)| .tup es,N,sc,e,X,G,h=>by replace h:=zac h;let⟨xs,q,h⟩:=h;let⟨j,p,rfl⟩:=zdQ q;exact zsh (zaS es G h).1| .lst es,N,sc,e,X,G,h=>by replace h:=zac h;let⟨xs,q,h⟩:=h;let⟨p,rfl⟩:=zjk q;exact zso (zaS es G h).1| .dnew,N,sc,e,X,G,h=>by let⟨p,rfl⟩:=zdS h;exact zpS| .dgetI a b c,N,sc,e,X,G,h=>by replace h:=zac h;let⟨⟨oe,x,ap,as,cp⟩,q,h⟩:=h;cases zbN q;replace h:=zac h;let⟨⟨e1,e2⟩,q2,h⟩:=h;cases two_inv q2;replace h:=qL (qL (qL (qL (qL (qL qa1))))) h;let⟨⟨⟨⟨⟨⟨⟨hx,h1⟩,h2⟩,h3⟩,h4⟩,h5⟩,h6⟩,h7⟩:=h;cases za0 hx;exact zmP G (zag a G h5) (zag b G h6) (zag c G h7) h1 h2 h3 h4| .dsetI a b c,N,sc,e,X,G,h=>by replace h:=zac h;let⟨⟨oe,x,ap,as,cp⟩,q,h⟩:=h;cases zbN q;replace h:=zac h;let⟨⟨e1,e2⟩,q2,h⟩:=h;cases two_inv q2;replace h:=qL (qL (qL (qL (qL (qL qa1))))) h;let⟨⟨⟨⟨⟨⟨⟨hx,h1⟩,h2⟩,h3⟩,h4⟩,h5⟩,h6⟩,h7⟩:=h;cases za0 hx;exact zmN G (zag a G h5) (zag b G h6) (zag c G h7) h1 h2 h3 h4| .extv a b,N,sc,e,X,G,h=>by replace h:=zac h;let⟨⟨oe,x,ap,e1,cp⟩,q,h⟩:=h;cases zc9 q;replace h:=qL (qL (qL (qL qa1))) h;let⟨⟨⟨⟨⟨hx,h1⟩,h2⟩,h3⟩,h4⟩,h5⟩:=h;cases za0 hx;exact zpR (zag a G h4) (zag b G h5) h1 h2 h3| .ix a b,N,sc,e,X,G,h=>by replace h:=zac h;let⟨⟨x,i⟩,q,h⟩:=h;let⟨p,rfl⟩:=zcN q;replace h:=qL qa1 h;exact zur (zag a G h.1.2) (zag b G h.2) h.1.1| .fld a f,N,sc,e,X,G,h=>by replace h:=zac h;let⟨⟨o,f',p⟩,q,h⟩:=h;cases zck q;replace h:=qL (qL qd1) h;let⟨⟨⟨rfl,h2⟩,h3⟩,h4⟩:=h;exact zsq G (zag a G h4) h2 h3| .mk c f x j es,N,sc,e,X,G,h=>by
  replace h:=zac h;let⟨⟨x',args⟩,q,h⟩:=h;let⟨p2,p,rfl⟩:=zaN q;simp![Ε,Ϝ,decide_eq_true_eq]at h;let⟨⟨⟨⟨⟨⟨rfl,h1⟩,h2⟩,h3⟩,h4⟩,h5⟩,h6⟩:=h;let⟨n1,n2,n3⟩:=zcV h2;have ha:=(zaS es G h6).1;cases args with
  |nil=>
   have:es=.nil:=by cases es with|nil=>rfl|cons _ _=>rcases h5 with z|z<;>exact nB z
   rw[this];exact zsn G h4 h3 h1 n1
  |cons a as=>exact zuq G h4 h3 h1 n1 ha (zaJ h6)
 |.meth m tb o es,N,sc,e,X,G,h=>by
  replace h:=zac h;let⟨⟨oe,m',ap,args,cp⟩,q,h⟩:=h;cases zbN q;simp![Ε,Ϝ,decide_eq_true_eq]at h;let⟨⟨⟨⟨⟨⟨⟨rfl,h1⟩,h2⟩,h3⟩,h4⟩,h5⟩,h6⟩,h7⟩:=h;have ho:=zag o G h6;have ha:=(zaS es G h7).1;cases args with
  |nil=>
   have:es=.nil:=by cases es with|nil=>rfl|cons _ _=>rcases h5 with z|z<;>exact nB z
   rw[this];exact zmM G h1 ho h2 h3
  |cons a as=>exact zpN G h1 ho ha (zaJ h7) h2 h3 h4
 |.callC f x m es,N,sc,e,X,G,h=>by
  replace h:=zac h;let⟨⟨oe,m',ap,args,cp⟩,q,h⟩:=h;cases zbN q;replace h:=zac h;let⟨y,q3,h⟩:=h;let⟨p3,rfl⟩:=zaX q3;simp![Ε,decide_eq_true_eq]at h;let⟨⟨⟨⟨⟨⟨⟨⟨rfl,rfl⟩,h1⟩,h2⟩,h3⟩,h4⟩,h5⟩,h6⟩,h7⟩:=h;cases args with
  |nil=>exact nB h6
  |cons a as=>exact zmS G h3 h1 (zcV h2).1 rfl (zaS es G h7).1 (zaJ h7) h5 h4
 |.callV a es,N,sc,e,X,G,h=>by
  replace h:=zac h;let⟨⟨x,args⟩,q,h⟩:=h;let⟨p2,p,rfl⟩:=zaN q;replace h:=zac h;let⟨i,q2,h⟩:=h;obtain rfl:=zlh q2;replace h:=qL (qL (qL qb1)) h;let⟨⟨⟨⟨h1,h2⟩,h3⟩,h4⟩,h5⟩:=h;let⟨n1,n2,_⟩:=zcV h3;have ha:=(zaS es G h5).1;cases args with
  |nil=>exact nB h4
  |cons a as=>exact zmR G (zow G h1 h2 n1 n2) ha (zaJ h5)
 |.intb a,N,sc,e,X,G,h=>by replace h:=zac h;let⟨⟨x,e1⟩,q,h⟩:=h;let⟨p2,p,rfl⟩:=zaB q;replace h:=qL (qL qa1) h;let⟨⟨⟨hx,h1⟩,h2⟩,h3⟩:=h;cases za0 hx;exact zpP (zbf G h1) (zag a G h3) h2| .slS a b,N,sc,e,X,G,h=>by replace h:=zac h;let⟨⟨x,i⟩,q,h⟩:=h;let⟨p,rfl⟩:=zcN q;replace h:=zac h;let⟨s,q2,h⟩:=h;let⟨p2,rfl⟩:=zkC q2;replace h:=qa1 h;exact zsi (zag a G h.1) (zag b G h.2)| .sl a n,N,sc,e,X,G,h=>by
  replace h:=zac h;let⟨⟨x,i⟩,q,h⟩:=h;let⟨p,rfl⟩:=zcN q;replace h:=zac h;let⟨⟨l,u⟩,q2,h⟩:=h;let⟨p2,rfl⟩:=zm2 q2;replace h:=qa1 h;let⟨h0,h⟩:=h;replace h:=zac h;let⟨z,rfl,h⟩:=h;replace h:=qa1 h;let⟨h1,h2⟩:=h;replace h1:=zac h1;let⟨c,q3,h1⟩:=h1;let⟨j,p3,rfl⟩:=zdU q3;cases l with
  |some _=>exact nB h0
  |none=>exact zuo (zag a G h2) (zox h1)
 |.call f j es,N,sc,e,X,G,h=>by
  replace h:=zac h;let⟨⟨x,args⟩,q,h⟩:=h;let⟨p2,p,rfl⟩:=zaN q;simp![Ε,Ϝ]at h;let⟨⟨⟨⟨h1,h2⟩,h3⟩,h4⟩,h5⟩:=h;let⟨n1,n2,n3⟩:=zcV h2;let⟨ps,nd,hf,hj⟩:=zo0 h3;have ha:=(zaS es G h5).1;cases args with
  |nil=>
   have:es=.nil:=by cases es with|nil=>rfl|cons _ _=>rcases h4 with z|z<;>exact nB z
   rw[this];exact zmT G hf hj h1 n1
  |cons a as=>exact zpU G hf hj h1 n1 ha (zaJ h5)
 |.callW f j es,N,sc,e,X,G,h=>by
  replace h:=zac h;let⟨⟨x,args⟩,q,h⟩:=h;let⟨p2,p,rfl⟩:=zaN q;replace h:=qL (qL (qL qa1)) h;let⟨⟨⟨⟨h1,h2⟩,h3⟩,h4⟩,h5⟩:=h;let⟨n1,n2,n3⟩:=zcV h2;let⟨ps,nd,hf,hj⟩:=zo0 h3;have ha:=(zaS es G h5).1;cases args with
  |nil=>exact nB h4
  |cons a as=>exact zmQ G hf hj h1 n1 ha (zaJ h5)
 |.bi b es,N,sc,e,X,G,h=>by
  replace h:=zac h;let⟨⟨x,args⟩,q,h⟩:=h;let⟨p2,p,rfl⟩:=zaN q;replace h:=qL qa1 h;let⟨⟨h1,h2⟩,h3⟩:=h;let⟨n1,n2,n3⟩:=zcV h2;split at h3;rename_i t qt;replace h3:=zac h3;let⟨⟨e1,e2⟩,q2,h3⟩:=h3;cases two_inv q2;replace h3:=zac h3;let⟨y,q3,h3⟩:=h3;let⟨p3,rfl⟩:=zaX q3;replace h3:=qL (qL (qL (qL qa1))) h3;let⟨⟨⟨⟨⟨hx,h4⟩,h5⟩,h6⟩,h7⟩,h8⟩:=h3;cases za0 hx;let⟨m1,m2,m3⟩:=zcV h6;let⟨t1,t2⟩:=zrS h4;let⟨a,ea⟩:=ziY h7;have he:=(zaS es G h8).2 a .nil e1 [] ea rfl;have hst:=zaJ h8;have eb:b=.isin t:=by cases b with|isin _=>cases qt;rfl|_=>exact nS qt
  rw[ea,eb];exact zpO G (zbf G h1) (zbf G h5) t2 t1 m3 m1 he (by simpa using hst);replace h3:=qL qa1 h3;cases args with
  |nil=>cases h3.1.2
  |cons a as=>let⟨id,hc,hv⟩:=zjN G h3.1.1;exact zus hc (zbf G h1) hv (zaS es G h3.2).1 (zaJ h3.2) n3 n1
 |.mt m o es,N,sc,e,X,G,h=>by
  replace h:=zac h;let⟨⟨oe,x,ap,e1,cp⟩,q,h⟩:=h;cases zc9 q;replace h:=qL (qL (qL (qL qa1))) h;let⟨⟨⟨⟨⟨h1,h2⟩,h3⟩,h4⟩,h5⟩,h6⟩:=h;let⟨a,ea⟩:=ziY h4;have he:=(zaS es G h6).2 a .nil e1 [] ea rfl;have hst:zao e1=Γ:=by simpa using zaJ h6
  rw[ea];cases m with| append=>cases za0 h1;exact zpL PySem.F.slot_list_append PySem.F.type_list_append zms (zag o G h5) he hst h2 h3| popAt=>cases za0 h1;exact zpL PySem.F.slot_list_pop PySem.F.type_list_pop znf (zag o G h5) he hst h2 h3| count=>cases za0 h1;exact zpL PySem.F.slot_list_count PySem.F.type_list_count zn6 (zag o G h5) he hst h2 h3
 |.mkL l,N,sc,e,X,G,h=>by
  replace h:ite (zhQ l=Γ) _ _=Γ:=h;split at h;rename_i c;have ht:zq0 l=Γ:=by cases l with|comp=>rfl|_=>exact nB c
  exact PE.imp ((zbR l G ((Ε _ _).mp h).2).2.1 ht) λσ H Qv q=>zlb q;replace h:=zac h;let⟨⟨x,e1⟩,q,h⟩:=h;let⟨p2,p,rfl⟩:=zaB q;simp![Ε,Ϝ,ϟ]at h;let⟨⟨⟨⟨hx,h1⟩,h2⟩,h3⟩,h4⟩:=h;cases za0 hx;have hl:=zbR l G h4;rcases h3 with h3|h3;exact zsm G (zbf G h1) (hl.1 h3) h2;have:∃a,l=.rng1 a:=by cases l with|rng1 a=>exact⟨a,rfl⟩|_=>exact nB h3
  let⟨a,ea⟩:=this;let⟨a',p3,p4,rfl,hr,ha,hs⟩:=hl.2.2.2 a ea;rw[ea];exact zpM G (zbf G h1) hr ha hs
 |.mkT l,N,sc,e,X,G,h=>by replace h:=zac h;let⟨⟨x,e1⟩,q,h⟩:=h;let⟨p2,p,rfl⟩:=zaB q;simp![Ε,ϟ]at h;let⟨⟨⟨⟨hx,h1⟩,h2⟩,h3⟩,h4⟩:=h;cases za0 hx;exact zsl G (zbf G h1) ((zbR l G h4).1 h3) h2| .all l,N,sc,e,X,G,h=>by replace h:=zac h;let⟨⟨x,e1⟩,q,h⟩:=h;let⟨p2,p,rfl⟩:=zaB q;simp![Ε,ϟ]at h;let⟨⟨⟨⟨hx,h1⟩,h2⟩,h3⟩,h4⟩:=h;cases za0 hx;exact zsu G (zbf G h1) ((zbR l G h4).1 h3) h2| .ext a l,N,sc,e,X,G,h=>by replace h:=zac h;let⟨⟨oe,x,ap,e1,cp⟩,q,h⟩:=h;cases zc9 q;simp![Ε]at h;let⟨⟨⟨⟨⟨⟨hx,h1⟩,h2⟩,h3⟩,h4⟩,h5⟩,h6⟩:=h;cases za0 hx;exact zsr (zag a G h5) ((zbR l G h6).2.1 h4) h1 h2 h3| .lenset l,N,sc,e,X,G,h=>by replace h:=zac h;let⟨⟨x,e1⟩,q,h⟩:=h;let⟨p2,p,rfl⟩:=zaB q;replace h:=zac h;let⟨⟨y,e2⟩,q2,h⟩:=h;let⟨p3,p4,hy⟩:=zaB q2;simp![Ε,ϟ]at h;let⟨⟨⟨⟨⟨⟨hx,h1⟩,hz⟩,h2⟩,h3⟩,h4⟩,h5⟩:=h;cases za0 hx;cases za0 hz;dsimp only at hy;subst hy;exact zkm G (zbf G h1) (zbf G h2) ((zbR l G h5).1 h4) h3| .srtK a,N,sc,e,X,G,h=>by replace h:=zac h;let⟨⟨o,le⟩,q,h⟩:=h;let⟨p1,p2,p3,rfl⟩:=zkA q;simp![Ε,decide_eq_true_eq]at h;let⟨⟨⟨⟨h1,h2⟩,h3⟩,h4⟩,h5⟩:=h;exact zpK G h4 (zbf G h1) (zag a G h5) h2 h3| .dnew3,N,sc,e,X,G,h=>by let⟨p,rfl⟩:=zdS h;exact zmO| .sset a,N,sc,e,X,G,h=>by replace h:=zac h;let⟨⟨x,e1⟩,q,h⟩:=h;let⟨p2,p,rfl⟩:=zaB q;replace h:=zac h;let⟨⟨y,e2⟩,q2,h⟩:=h;let⟨p3,p4,hy⟩:=zaB q2;replace h:=qL (qL (qL (qL qa1))) h;let⟨⟨⟨⟨⟨hx,h1⟩,hz⟩,h2⟩,h3⟩,h5⟩:=h;cases za0 hx;cases za0 hz;dsimp only at hy;subst hy;exact zpJ G (zbf G h1) (zbf G h2) (zag a G h5) h3
theorem zaS:∀(ces:CEs){N:List Str}{sc:Scope}{es:List Expr}{X:Cx},Gd T cf k N sc X->zc0 T ces N sc es=Γ->EsOk cf ces X es
 |.nil,N,sc,es,X,G,h=>by obtain rfl:=isEmpty_iff.mp h;exact⟨zoA,λa r e es' z=>by cases z⟩| .cons a r,N,sc,es,X,G,h=>by
  cases es with
  |nil=>exact nB h
  |cons e es=>replace h:=(Ε _ _).mp h;have he:=zag a G ((Ε _ _).mp h.1).2;exact⟨zkq he (zaS r G h.2).1 ((Ε _ _).mp h.1).1,λa' r' e' es' z1 z2=>by cases z1;cases z2;exact he⟩
theorem zbc(ce:CE){N:List Str}{sc:Scope}{e:Expr}{X:Cx}(G:Gd T cf k N sc X)(h:chkT T ce N sc e=Γ):PT X e (tT X.K cf ce)/\((∃op v r p,e=.BoolOp op (v::r) p)->PW X e (tT X.K cf ce)):=by
 cases ce with
 |cmp op a b=>replace h:=zac h;let⟨⟨l,os,rs⟩,q,h⟩:=h;let⟨p,rfl⟩:=zcO q;replace h:=qd1 h;let⟨e1,h⟩:=h;replace h:=zac h;let⟨r,q2,h⟩:=h;cases zbz q2;cases e1;replace h:=qL qa1 h;exact⟨zr9 G (zag a G h.1.2) (zag b G h.2) h.1.1,λ⟨_,_,_,_,z⟩=>by cases z⟩| cmp2 op op' a b c=>replace h:=zac h;let⟨⟨l,os,rs⟩,q,h⟩:=h;let⟨p,rfl⟩:=zcO q;replace h:=qd1 h;let⟨e1,h⟩:=h;replace h:=zac h;let⟨⟨r,r'⟩,q2,h⟩:=h;cases two_inv q2;cases e1;replace h:=qL (qL (qL qa1)) h;let⟨⟨⟨⟨h1,h2⟩,h3⟩,h4⟩,h5⟩:=h;exact⟨zpu G (zag a G h3) (zag b G h4) (zag c G h5) h1 h2,λ⟨_,_,_,_,z⟩=>by cases z⟩| nt a=>replace h:=zac h;let⟨⟨o,x⟩,q,h⟩:=h;let⟨p,rfl⟩:=zfo q;replace h:=qd1 h;let⟨rfl,h1⟩:=h;exact⟨zum (zbc a G h1).1,λ⟨_,_,_,_,z⟩=>by cases z⟩| and a b=>replace h:=zac h;let⟨⟨o,vs,p⟩,q,h⟩:=h;cases zcj q;replace h:=qd1 h;let⟨e1,h⟩:=h;cases e1;dsimp only at h;split at h;rename_i x y rest;replace h:=qa1 h;let⟨h1,h2⟩:=h;split at h2;rename_i c;cases isEmpty_iff.mp c;have w:=zop (pos:=p) (zbc a G h1).1 (zqg (zbc b G h2).1);exact⟨w.pt,λ_=>w⟩;have w:=zop (zbc a G h1).1 ((zbc b G h2).2 ⟨_,_,_,_,rfl⟩);exact⟨w.pt,λ_=>w⟩;exact nB h
 |or a b=>replace h:=zac h;let⟨⟨o,vs,p⟩,q,h⟩:=h;cases zcj q;replace h:=qd1 h;let⟨e1,h⟩:=h;cases e1;dsimp only at h;split at h;rename_i x y rest;replace h:=qa1 h;let⟨h1,h2⟩:=h;split at h2;rename_i c;cases isEmpty_iff.mp c;have w:=zr6 (pos:=p) (zbc a G h1).1 (zsO (zbc b G h2).1);exact⟨w.pt,λ_=>w⟩;have w:=zr6 (zbc a G h1).1 ((zbc b G h2).2 ⟨_,_,_,_,rfl⟩);exact⟨w.pt,λ_=>w⟩;exact nB h
 |tst a=>replace h:=(Ε _ _).mp h;exact⟨zr5 (zag a G h.2) h.1,λ⟨_,_,_,_,z⟩=>by rw[z]at h;simp[zix]at h⟩|_=>exact absurd h Ο
theorem zbR:∀(cl:CL){N:List Str}{sc:Scope}{e:Expr}{X:Cx},Gd T cf k N sc X->chkL T cl N sc e=Γ->LOk T cf k cl X e
 |.val a,N,sc,e,X,G,h=>by replace h:=(Ε _ _).mp h;have hp:=zsg (zag a G h.2);exact⟨λ_=>hp,λz=>(by exact nB z),λtg _=>zos hp zts,λa z=>by cases z⟩| .rng1 a,N,sc,e,X,G,h=>by replace h:=zac h;let⟨⟨x,e1⟩,q,h⟩:=h;let⟨p2,p,rfl⟩:=zaB q;replace h:=qL (qL qa1) h;let⟨⟨⟨hx,h1⟩,h2⟩,h3⟩:=h;cases za0 hx;have he:=zag a G h3;exact⟨λz=>(by cases z),λz=>(by exact nB z),λtg _=>zpD (zbf G h1) he h2,λa z=>by cases z;exact⟨e1,p2,p,rfl,zbf G h1,he,h2⟩⟩| .rng2 a b,N,sc,e,X,G,h=>by replace h:=zac h;let⟨⟨x,args⟩,q,h⟩:=h;let⟨p2,p,rfl⟩:=zaN q;replace h:=zac h;let⟨⟨e1,e2⟩,q2,h⟩:=h;cases two_inv q2;replace h:=qL (qL (qL (qL qa1))) h;let⟨⟨⟨⟨⟨hx,h1⟩,h2⟩,h3⟩,h4⟩,h5⟩:=h;cases za0 hx;exact⟨λz=>(by cases z),λz=>(by exact nB z),λtg _=>zpC (zbf G h1) (zag a G h4) (zag b G h5) h2 h3,λa z=>by cases z⟩| .enum a,N,sc,e,X,G,h=>by replace h:=zac h;let⟨⟨x,e1⟩,q,h⟩:=h;let⟨p2,p,rfl⟩:=zaB q;replace h:=qL (qL qa1) h;let⟨⟨⟨hx,h1⟩,h2⟩,h3⟩:=h;cases za0 hx;refine⟨λz=>(by cases z),λz=>(by exact nB z),λtg ht=>?_,λa z=>by cases z⟩;cases tg with|Tuple es j pt=>exact zpE (zbf G h1) (zag a G h3) h2|_=>exact nB ht
 |.comp nt js g it c e,N,sc,ex,X,G,h=>by
  replace h:=zac h;let⟨⟨elt,gs,scope,p⟩,q,h⟩:=h;cases zit q;replace h:=zac h;let⟨⟨tg,iter,ifs,asy⟩,q2,h⟩:=h;cases zbz q2;rw[Ε,Ε,Ε,Ε,Ε,Ε,Ε,Ε,decide_eq_true_eq,decide_eq_true_eq,decide_eq_true_eq]at h;let⟨⟨⟨⟨⟨⟨⟨⟨h1,h2⟩,h3⟩,h4⟩,h5⟩,h6⟩,h7⟩,h8⟩,h9⟩:=h;dsimp only at h1 h2 h3 h4 h5 h6 h7 h8 h9;replace h3:=qa1 h3;subst h1 h5;have ok:=ziX G h2;have G':=zlV G (tgs:=zb3 tg) ok h6;have ht:∀cl C fp s H pn,PTs (zaI X (capN X.N (zb3 tg) js) scope cl C fp s H pn) ifs (tT X.K cf c):=λcl C fp s H pn=>by split at h8;rename_i ce;cases isEmpty_iff.mp ce;exact zif (X:=zaI X (capN X.N (zb3 tg) js) scope cl C fp s H pn) h8;replace h8:=zac h8;let⟨t,q3,h8⟩:=h8;cases zbz q3;exact zkP (zbc c (G' cl C fp s H pn) h8).1
  have hp:PE X (.ListComp elt [⟨tg,iter,ifs,0⟩] scope p) (tLt X.K cf (.comp (zb3 tg).length js g it c e)):=PE.imp (zno X.env.scope (zb3 tg) js G.calm rfl ok ((zbR it G h4).2.2.1 tg h3.2) (λcl C fp s H pn=>zpn (G' cl C fp s H pn) h7) ht (λcl C fp s H pn=>zag e (G' cl C fp s H pn) h9) (zhW h3.1 X.env)) λσ H Qv q=>ziW G.tab.frm q;exact⟨λ_=>(PE.ofT hp),λ_=>hp,λtg _=>zos (PE.ofT hp) zqR,λa z=>by cases z⟩
end
end
end R
end
namespace R
open PySem PySem.Spec PyProof.Rows L2
variable[Mks]
section
variable{T:Tab}{cf:CF}{k:Nat}
def zpy(G:Gd T cf k N sc X)(L:N[i]?=Φ x)(A:zgM sc x=Γ)(h:chkE T (.mkL l) N sc (.ListComp o gs scope p2)=Γ)(hr:PSs X rest (tS X.K cf r)):
  PSs X (.Assign [.Name x p] (.ListComp o gs scope p2) pos::rest) (tS X.K cf (.asg i (.mkL l) r)):=by
 have B:∃b,swapsWith (.ListComp o gs scope p2) (Φ (.Name x p)) pos.line X.env=pure b:=⟨_,rfl⟩;let⟨b,B⟩:=B;cases b with
 |false=>refine PSs.imp (zaP (zkS (i:=i) (by rw[G.nm];exact G.nd) (by rw[G.nm];exact L) (G.lc A).1 (zag (.mkL l) G h) B (G.lc A).2) hr) λE σ H z=>?_;let⟨δ,ι,S,Q,hs,hh,w,lf⟩:=z;change W (Out.bind _ _) _ at w;simp![zab] at w;refine tE.run hs hh w λd v M H1 S1 x1 O U r1 w1=>?_;exact⟨δ.set i (Φ d),M,S1,Q,O.set r1 i,U,w1,lf.up x1⟩| true=>
  replace h:ite (zhQ l=Γ) _ _=Γ:=h;split at h;rename_i c0;replace h:=((Ε _ _).mp h).2;cases l with
  |comp nt u g it c e=>
   replace h:=zac h;let⟨⟨elt',gs',I,p'⟩,q,h⟩:=h;cases zit q;replace h:=zac h;let⟨⟨m,iter,Y,asy⟩,q2,h⟩:=h;cases zbz q2;rw[Ε,Ε,Ε,Ε,Ε,Ε,Ε,Ε,decide_eq_true_eq,decide_eq_true_eq,decide_eq_true_eq]at h;let⟨⟨⟨⟨⟨⟨⟨⟨h1,h2⟩,J⟩,h4⟩,h5⟩,h6⟩,h7⟩,n⟩,h9⟩:=h;dsimp only at h1 h2 J h4 h5 h6 h7 n h9;replace J:=qa1 J;subst h1 h5;have ok:=ziX G h2;have G':=zlV G (tgs:=zb3 m) ok h6;have ht:∀a C f s H j,PTs (zaI X (capN X.N (zb3 m) u) scope a C f s H j) Y (tT X.K cf c):=λa C f s H j=>by split at n;rename_i ce;cases isEmpty_iff.mp ce;exact zif (X:=zaI X (capN X.N (zb3 m) u) scope a C f s H j) n;replace n:=zac n;let⟨t,q3,n⟩:=n;cases zbz q3;exact zkP (zbc c (G' a C f s H j) n).1
   have he:∀a C f s H j,PE (zaI X (capN X.N (zb3 m) u) scope a C f s H j) o (tE X.K cf e):=λa C f s H j=>zag e (G' a C f s H j) h9;have hg:∀a C f s H j,PG (zaI X (capN X.N (zb3 m) u) scope a C f s H j) m (tG X.K g):=λa C f s H j=>zpn (G' a C f s H j) h7;have hps:=zql (spos:=pos) (py:=p) (pos:=p2) X.env.scope (zb3 m) u (i:=i) (y:=x) (by rw[G.nm];exact G.nd) (by rw[G.nm];exact L) (G.lc A).1 G.calm rfl ok ((zbR it G h4).2.2.1 m J.2) hg ht he B (zhW J.1 X.env) (G.lc A).2;exact zpA G L ⟨_,hps,λσ H Qv q=>ziW G.tab.frm (zlb q)⟩ hr
  |_=>exact nB c0
  exact nB h
def zrm(h:zbA v=Δ)(b:chkE T e N c v=Γ):∃l a gs scope p,v=.ListComp a gs scope p/\e=.mkL l:=by
 cases v with
 |ListComp a gs scope p=>cases e with|mkL l=>exact⟨l,a,gs,scope,p,rfl,rfl⟩|_=>exact absurd b Ο
 |SetComp=>cases e<;>(first|exact absurd b Ο|(rename_i l;cases l<;>exact absurd b Ο))|DictComp=>cases e<;>(first|exact absurd b Ο|(rename_i l;cases l<;>exact absurd b Ο))|_=>cases h
def zaW:∀(cs:CS){N:List Str}{y:Scope}{st:List Stmt}{X:Cx},Gd T cf k N y X->chkS T cs N y st=Γ->PSs X st (tS X.K cf cs)
 |.nil,N,y,st,X,G,h=>by obtain rfl:=isEmpty_iff.mp h;exact zsb|.stop,N,y,st,X,G,h=>λpins s σ H E I z=>(by let⟨δ,ι,S,Q,hs,hh,w,l⟩:=z;exact (by exact w.elim))| .asg i e r,N,y,st,X,G,h=>by
  cases st with
  |nil=>exact nB h
  |cons s d=>replace h:=zac h;let⟨⟨M,v,pos⟩,q,h⟩:=h;cases zcR q;replace h:=zac h;let⟨x,L,h⟩:=h;let⟨p,m⟩:=zaX L;dsimp only at m;subst m;replace h:=qL (qL qb1) h;let⟨⟨⟨n,B⟩,A⟩,C⟩:=h;have hr:=zaW r G C;cases hn:zbA v with|true=>exact zsd G n B (zag e G A) hn hr| false=>let⟨l,elt,gs,O,U,rfl,rfl⟩:=zrm hn A;exact zpy G n B A hr
 |.asgT g e r,N,y,st,X,G,h=>by
  cases st with
  |nil=>exact nB h
  |cons s d=>replace h:=zac h;let⟨⟨M,v,pos⟩,q,h⟩:=h;cases zcR q;replace h:=zac h;let⟨es,L,h⟩:=h;let⟨j,p,m⟩:=zdQ L;dsimp only at m;subst m;simp![Ε,decide_eq_true_eq]at h;let⟨⟨⟨⟨n,B⟩,A⟩,C⟩,J⟩:=h;refine zpz G A B (zag e G C) ?_ (zaW r G J);rw[Ϝ]at n;rcases n with n|n;let⟨x,m⟩:=Option.isSome_iff_exists.mp n;let⟨U,Y⟩:=zaX m;exact .inl ⟨x,U,Y⟩;let⟨⟨x,as⟩,m⟩:=Option.isSome_iff_exists.mp n;let⟨U,p3,Y⟩:=zaN m;exact .inr ⟨_,_,_,_,Y⟩
 |.setF a f e r,N,y,st,X,G,h=>by
  cases st with
  |nil=>exact nB h
  |cons s d=>replace h:=zac h;let⟨⟨M,v,pos⟩,q,h⟩:=h;cases zcR q;replace h:=zac h;let⟨⟨o,f',p⟩,L,h⟩:=h;have m:=zck L;dsimp only at m;subst m;replace h:=qL (qL (qL (qL qd1))) h;let⟨⟨⟨⟨⟨n,B⟩,A⟩,C⟩,J⟩,h6⟩:=h;subst n;exact zpv G B (zag a G C) (zag e G J) A (zaW r G h6)
 |.retN r,N,y,st,X,G,h=>by
  cases st with
  |nil=>exact nB h
  |cons s d=>replace h:=(Ε _ _).mp h;let⟨p,rfl⟩:=zjj h.1;exact zpw (zaW r G h.2)
 |.setIx a b e r,N,y,st,X,G,h=>by
  cases st with
  |nil=>exact nB h
  |cons s d=>replace h:=zac h;let⟨⟨M,v,pos⟩,q,h⟩:=h;cases zcR q;replace h:=zac h;let⟨⟨o,i⟩,L,h⟩:=h;let⟨p,m⟩:=zcN L;dsimp only at m;subst m;replace h:=qL (qL (qL qa1)) h;let⟨⟨⟨⟨n,B⟩,A⟩,C⟩,J⟩:=h;exact zmE G (zag a G B) (zag b G A) (zag e G C) n (zaW r G J)
 |.ifS c t u r,N,y,st,X,G,h=>by
  cases st with
  |nil=>exact nB h
  |cons s d=>replace h:=zac h;let⟨⟨e,a,b⟩,q,h⟩:=h;let⟨p,rfl⟩:=zkE q;replace h:=qL (qL qa1) h;exact zun (zbc c G h.1.1.1).1 (zaW t G h.1.1.2) (zaW u G h.1.2) (zaW r G h.2)
 |.forS g l b r,N,y,st,X,G,h=>by
  cases st with
  |nil=>exact nB h
  |cons s d=>replace h:=zac h;let⟨⟨M,it,body⟩,q,h⟩:=h;let⟨p,rfl⟩:=zkF q;simp![Ε]at h;let⟨⟨⟨⟨n,B⟩,A⟩,C⟩,J⟩:=h;exact zsc G ((zbR l G B).2.2.1 M J.2) (zpn G J.1) (zaW b G A) n (zaW r G C)
 |.ret e r,N,y,st,X,G,h=>by
  cases st with
  |nil=>exact nB h
  |cons s d=>replace h:=zac h;let⟨v,q,h⟩:=h;let⟨p,rfl⟩:=zkD q;simp![Ε]at h;exact zsa (zag e G h.1) (zaW r G h.2)
 |.expr e r,N,y,st,X,G,h=>by
  cases st with
  |nil=>exact nB h
  |cons s d=>replace h:=zac h;let⟨v,q,h⟩:=h;let⟨p,rfl⟩:=zkG q;replace h:=qL qa1 h;exact zpx (zag e G h.1.2) h.1.1 (zaW r G h.2)
def RS.start{K}(r:RVs K ι H ds vs)(c:ds.length=F.np)(f:F.nn=N.length):RS K ι H (za5 F ds) (L2.start N vs):=by
 have a:=r.length;refine⟨by simp[za5,L2.start,a,c,f],λi d e=>?_⟩;unfold za5 at e;unfold L2.start;by_cases b:i<ds.length;rw[getElem?_append_left (by simpa using b),getElem?_map]at e;rw[getElem?_append_left (by simpa[a]using b),getElem?_map];cases z:ds[i]? with
 |none=>rw[z]at e;exact nS e
 |some j=>rw[z]at e;simp![Option.map_some,Option.some.injEq]at e;subst e;let⟨v,g,h⟩:=r.get z;exact⟨v,by rw[g];rfl,h⟩
 . rw[getElem?_append_right (by simpa using b),List.getElem?_replicate]at e;split at e<;>cases e
abbrev ChkD(T:Tab)(b:CS)(N:List Str)(a:Scope)(st:List Stmt):Prop:=chkS T b N a st=Γ/\N≠T.lam
structure DefOk(K:Frag)(mg:Str->Option Ξ)(T:Tab)(Pg:List Fn)(fi:Nat)(x:Str)(ps:List Str)(nd:Nat):Prop where
 ex:∃(F:Fn) (qual:Str) (st:Stmt) (dV:Ξ) (f:Addr) (fd:FuncData) (N:List Str),Pg[fi]?=Φ F/\F.prim=Ψ/\FunV K x qual st dV f fd/\FnScope N ps (zaa st)/\ChkD T F.body N (zaa st) (zaj st)/\F.np=ps.length/\F.nn=N.length/\
  mg x=Φ (.ref f)/\∀j,j<=nd->Binds K fd ps (List.replicate j Ξ.none)
def zqp:Fr S (prm S p ds):=by
 unfold prm
 repeat' first
 |exact .bad
 |exact .ok
 |exact .of (.push _ _)
 |split
def zgS(a)(n):CFok (callF a n):=by
 induction n with
 |zero=>exact λ_ _ _ _ _ e=>by cases e| succ n b=>
  intro f c S;show Fr S _;unfold callF
  repeat' first
  |exact .bad
  |exact .ok
  |exact frS b _ _ _
  |exact zqp
  |refine Fr.bind ?_ λ_ _=>?_
  |split
variable{P:ϊ}{w:ό}{K:Frag}{mg:Str->Option Ξ}{base:Heap}{Pg:List Fn}
def zbK{ps:List Str}(a:Pg[b]?=Φ F)(d:F.np=ps.length)(h:spF K (callF Pg n) b vs H Q E):vs.length=ps.length:=by let⟨ι,S,e,r,f,w⟩:=h;rw[r.length];cases n with|zero=>exact w.elim| succ n=>simp![callF,a]at w;split at w;rename_i c;rw[c,d];exact w.elim
def zl6{st}(tab:TabOk T (callF Pg n) m P w K mg base)(t:FunV K x b st dV f fd)(l:Pg[u]?=Φ F)(S:FnScope N ps (zaa st))(o:ChkD T F.body N (zaa st) (zaj st))(y:F.np=ps.length)(B:F.nn=N.length)(C:F.prim=Ψ:=by rfl):
  FnOk P w K mg base CX0 (m+2) f fd ps (spF K (callF Pg (n+1)) u):=by
 refine t.ok S (λI H Q E h=>zbK l y h) λj A a s H I Q E J h=>?_;let⟨ι,L,M,r,O,g⟩:=h;have G:Gd T (callF Pg n) m N (zaa st) (cxOf CX0 P w K mg base N b (zaa st) f j A a s H E).nox:=⟨rfl,S.nd,λx e=>e,λx e=>e,λx e=>.inl e,λx e=>e,.inl λ_=>rfl,rfl,rfl,J,tab,λz=>absurd z o.2⟩;refine⟨_,zaW F.body G o.1,?_⟩;simp![callF,l,C]at g;split at g;rename_i c;rw[zab]at g;refine⟨za5 F M,ι,L,_,RS.start r c B,O,g,?_⟩;intro U ι' H' S' p i q;cases U with|nx Y=>exact λσ' hs'=>q .non H' ι' p rfl i|rt d=>exact λv rv=>q v H' ι' p rv i
 exact g.elim
structure MOk(K:Frag)(T:Tab)(Pg:List Fn)(fi j:Nat)(Ex:Addr->Prop):Prop where
 ex:∃(F:Fn) (x qual:Str) (st:Stmt) (dV:Ξ) (f:Addr) (fd:FuncData) (N ps:List Str),Pg[fi]?=Φ F/\F.prim=Ψ/\FunV K x qual st dV f fd/\FnScope N ps (zaa st)/\ChkD T F.body N (zaa st) (zaj st)/\F.np=ps.length/\F.nn=N.length/\
  Binds K fd ps (List.replicate j Ξ.none)/\Ex f
def zfE(z:MOk K T Pg d j g):∃f fd ps,g f/\keepIn K (.ref f)=Γ/\Binds K fd ps (List.replicate j Ξ.none)/\FnOk P w K mg base CX0 0 f fd ps (spF K (callF Pg 0) d):=by let⟨F,x,c,st,p,f,fd,N,ps,i,q,l,S,t,m,u,n,e⟩:=z.ex;refine⟨f,fd,ps,e,l.kp,n,⟨λo H Q E h=>zbK i m h,λA a s H args y o Q E B C b v h=>?_⟩⟩;let⟨ι,S,G,r,I,w⟩:=h;exact w.elim
def zfF(tab:TabOk T (callF Pg n) m P w K mg base)(z:MOk K T Pg c j d):∃f fd ps,d f/\keepIn K (.ref f)=Γ/\Binds K fd ps (List.replicate j Ξ.none)/\FnOk P w K mg base CX0 (m+2) f fd ps (spF K (callF Pg (n+1)) c):=by let⟨F,x,a,st,q,f,fd,N,ps,g,h,b,S,i,l,o,p,e⟩:=z.ex;exact⟨f,fd,ps,e,b.kp,p,zl6 tab b g S i l o h⟩
abbrev ExM(K:Frag)(c:Nat)(m:Str)(f:Addr):Prop:=∃C,Mks.cl[c]?=Φ C/\Cls K C/\Meth K C m f
abbrev ExI(K:Frag)(c:Nat)(f:Addr):Prop:=∃C,Mks.cl[c]?=Φ C/\Mk K C f
abbrev ExC(K:Frag)(mg:Str->Option Ξ)(x m:Str)(f:Addr):Prop:=∃(C:Addr) (a:Ξ),mg x=Φ (.ref C)/\specialIn K (.ref C) "__getattribute__"=Φ (Φ (.builtin "type.__getattribute__"))/\readsIn K C a=Γ/\findCls K (.ref C) a m=Φ (.val (.ref f))
structure ClsOk(T:Tab)(K:Frag)(mg:Str->Option Ξ)(Pg:List Fn):Prop where
 cls:∀(c:Nat)(x:Str),T.cls[c]?=Φ x->∃C,Mks.cl[c]?=Φ C/\Cls K C/\mg x=Φ (.ref C)/\∀f,T.flds.contains f=Γ->NoAttr K C f
 mth:∀(c:Nat)(m:Str)(fi:Nat),T.mts.contains (c,m,fi)=Γ->MOk K T Pg fi 0 (ExM K c m)
 ini:∀(c fi j:Nat),T.inits.contains (c,fi,j)=Γ->MOk K T Pg fi j (ExI K c)
 cmd:∀(x m:Str)(fi:Nat),T.cms.contains (x,m,fi)=Γ->MOk K T Pg fi 0 (ExC K mg x m)
 cln:Mks.cl.length<=T.cls.length
 isa:∀(x:Str)(cs:List Nat),T.isas.contains (x,cs)=Γ->∃D,mg x=Φ (.ref D)/\∀c C,Mks.cl[c]?=Φ C->IsaOk K C/\kitOne K (.ref C) (.ref D)=Φ (cs.contains c)
def zlR(h:∃f fd ps,ExM K c m f/\keepIn K (.ref f)=Γ/\Binds K fd ps []/\FnOk P w K mg base CX0 k f fd ps (spF K cf a)):HasM P w K mg base k c m (spF K cf a):=by let⟨f,fd,ps,⟨C,b,d,e⟩,_,g,i⟩:=h;exact⟨C,f,fd,ps,b,d,e,i,g⟩
def zlS(h:∃f fd ps,ExI K c f/\keepIn K (.ref f)=Γ/\Binds K fd ps (List.replicate j Ξ.none)/\FnOk P w K mg base CX0 k f fd ps (spF K cf a)):HasI P w K mg base k c j (spF K cf a):=by let⟨f,fd,ps,⟨C,b,d⟩,_,e,g⟩:=h;exact⟨C,f,fd,ps,b,d,g,e⟩
def zlT(h:∃f fd ps,ExC K mg x m f/\keepIn K (.ref f)=Γ/\Binds K fd ps []/\FnOk P w K mg base CX0 k f fd ps (spF K cf a)):HasC P w K mg base k x m (spF K cf a):=by let⟨f,fd,ps,⟨C,b,c,d,e,g⟩,i,j,l⟩:=h;exact⟨C,f,fd,ps,b,c,d,e,g,i,l,j⟩
structure PrimOk(P:ϊ)(w:ό)(K:Frag)(mg:Str->Option Ξ)(base:Heap)(T:Tab)(Pg:List Fn)(fi:Nat)(x:Str)(ps:List Str)(nd:Nat):Prop where
 ex:∃(F:Fn) (p:Prim) (f:Addr) (fd:FuncData),Pg[fi]?=Φ F/\F.prim=Φ p/\F.np=ps.length/\mg x=Φ (.ref f)/\keepIn K (.ref f)=Γ/\(∀j,j<=nd->Binds K fd ps (List.replicate j Ξ.none))/\
  ∀n,3<=n->TabOk T (callF Pg n) (2*n) P w K mg base->FnOk P w K mg base CX0 (2*n+2) f fd ps (spF K (callF Pg (n+1)) fi)
def zrZ(U:∀x,T.blt.contains x=Γ->mg x=Ψ)(Y:∀x d,T.cons.lookup x=Φ d->zpV d=Γ/\∃u,mg x=Φ u/\RelV (sV d) u)(hd:∀a x ps o,T.fns[a]?=Φ (x,ps,o)->DefOk K mg T Pg a x ps o\/PrimOk P w K mg base T Pg a x ps o)(g:ClsOk T K mg Pg) :
  ∀n,TabOk T (callF Pg n) (2*n) P w K mg base:=by
 intro n;induction n with
 |zero=>refine⟨U,Y,λa x ps o M j B=>?_,zgS Pg 0,g.cls,λc m a h=>zlR (zfE (g.mth c m a h)),λc a j h=>zlS (zfE (g.ini c a j h)),λx m a h=>zlT (zfE (g.cmd x m a h)),λ_=>g.cln,g.isa⟩;rcases hd a x ps o M with z|z;let⟨F,C,st,dV,f,q,N,l,G,L,S,ck,t,hn,y,e⟩:=z.ex;refine⟨f,q,_,⟨λI H Q E h=>zbK l t h,λA i s H args us I Q E hr e0 b v h=>?_⟩,y,L.kp,e j B,Vals.nons j⟩;let⟨ι,S,ds,r,hh,w⟩:=h;exact w.elim;let⟨F,p,f,q,l,G,t,y,O,e,ok⟩:=z.ex;refine⟨f,q,_,⟨λI H Q E h=>zbK l t h,λA i s H args us I Q E hr e0 b v h=>?_⟩,y,O,e j B,Vals.nons j⟩;let⟨ι,S,ds,r,hh,w⟩:=h;exact w.elim
 |succ n J=>
  refine⟨U,Y,λa x ps o M j B=>?_,zgS Pg (n+1),g.cls,λc m a h=>zlR (zfF J (g.mth c m a h)),λc a j h=>zlS (zfF J (g.ini c a j h)),λx m a h=>zlT (zfF J (g.cmd x m a h)),λ_=>g.cln,g.isa⟩;rcases hd a x ps o M with z|z;let⟨F,C,st,dV,f,q,N,l,G,L,S,ck,t,hn,y,e⟩:=z.ex;refine⟨f,q,_,?_,y,L.kp,e j B,Vals.nons j⟩;exact zl6 J L l S ck t hn G;let⟨F,p,f,q,l,G,t,y,O,e,ok⟩:=z.ex;refine⟨f,q,_,?_,y,O,e j B,Vals.nons j⟩;by_cases c:3<=n;exact(ok n c J).mono (by lia)
  . refine⟨λI H Q E h=>zbK l t h,λA i s H args us I Q E hr e0 b v h=>?_⟩;let⟨ι,S,ds,r,hh,w⟩:=h;cases p<;>(simp![callF,l,G,c,if_false]at w;split at w<;>exact w.elim)
abbrev AllAtG{b:Type}(P:Nat->b->Prop):Nat->List b->Prop
 |_,[]=>True|k,a::r=>P k a/\AllAtG P (k+1) r
def zpf{P}:∀{l:List c}{k:Nat},AllAtG P k l->∀(i:Nat)(a:c),l[i]?=Φ a->P (k+i) a
 | [],_,_,i,a,h=>by simp at h|b::r,k,q,0,a,h=>by cases h;exact q.1| b::r,k,q,i+1,a,h=>by
  have:=zpf q.2 i a (by simpa using h)
  rwa [Nat.add_right_comm]at this
def AllAt.get{P:Nat->b->Prop}{l:List b}(q:AllAtG P 0 l)(i)(a)(h:l[i]?=Φ a):P i a:=zero_add i▸zpf q i a h
abbrev AllInG{b:Type}(P:b->Prop):List b->Prop
 | []=>True|a::r=>P a/\AllInG P r
def AllIn.get[BEq c][LawfulBEq c]{P}:∀{l:List c},AllInG P l->∀a,l.contains a=Γ->P a
 | [],_,a,h=>by simp at h| b::r,q,a,h=>by rw[contains_cons,Ϝ]at h;rcases h with h|h;rw[eq_of_beq h];exact q.1;exact AllIn.get q.2 a h
def law_spT{ns:List Int}(c:FixL K H a (ns.map V.int))(f:TB H)(b:W (callF Pg k g [.fix (ns.map .int)] ⟨[],[],[]⟩) λd _=>d=.bl Γ):spF K (callF Pg k) g [.ref a] H (λv _=>v=.bl Γ) λ_ _ _=>False:=by
 refine⟨[],⟨[],[],[]⟩,[.fix (ns.map .int)],⟨.ref a,[],rfl,⟨a,_,rfl,c,RVs.ints ns⟩,rfl⟩,⟨rfl,List.nodup_nil,λl o e=>(by simp[St.get]at e),f⟩,?_⟩;let⟨d,h,e,q⟩:=zf8 b;rw[e];intro v H' ι' x r i;subst q;exact r
end
abbrev okD(T:Tab)(F:Fn)(N ps:List Str)(st:Stmt):Bool:=
 decide ((zaa st).kind=.function)&&(!(zaa st).isCoroutine&&(!(zaa st).isGenerator&&(decide N.Nodup&&(decide (N.take ps.length=ps)&&(ps.all (λx=>decide ((zaa st).names.lookup x=Φ .local)||decide ((zaa st).names.lookup x=Φ .cell)) &&
  ((zaa st).names.all (λy=>decide (y.2≠.free))&&(chkS T F.body N (zaa st) (zaj st)&&(decide (F.np=ps.length)&&(decide (F.nn=N.length)&&(F.prim.isNone&&decide (N≠T.lam)))))))))))
structure OkD(T:Tab)(Pg:List Fn)(fi:Nat)(x q:Str)(ps:List Str)(st:Stmt):Prop where
 ex:∃(F:Fn) (N:List Str),Pg[fi]?=Φ F/\F.prim=Ψ/\FnScope N ps (zaa st)/\ChkD T F.body N (zaa st) (zaj st)/\F.np=ps.length/\F.nn=N.length
 bd:∀(kV doc pm:Ξ)(an:Option Addr)(cdv ct:Ξ)(us:List Ξ),us.length=ps.length->bindArgs (fnOf x q (zaq st) (zaj st) (zaa st) .none kV doc pm an cdv ct) ⟨us,[]⟩=pure (ps.zip us)
def zap{st}(N)(e:i[j]?=Φ F)(h:okD T F N ps st=Γ)(b:∀(kV a k:Ξ)(l:Option Addr)(c ct:Ξ)(us:List Ξ),us.length=ps.length->bindArgs (fnOf x q (zaq st) (zaj st) (zaa st) .none kV a k l c ct) ⟨us,[]⟩=pure (ps.zip us)):OkD T i j x q ps st:=by
 simp![okD,Ε,ϟ,decide_eq_true_eq,all_eq_true,Ϝ,Option.isNone_iff_eq_none]at h;let⟨m,n,o,p,r,s,t,u,v,d,f,g⟩:=h;exact⟨⟨F,N,e,f,⟨m,n,o,p,r,s,t⟩,⟨u,g⟩,v,d⟩,b⟩
def AllInG.cons{b:Type}{P:b->Prop}{a:b}{r:List b}(h:P a)(t:AllInG P r):AllInG P (a::r):=⟨h,t⟩
def AllAtG.cons{b:Type}{P:Nat->b->Prop}{k:Nat}{a:b}{r:List b}(h:P k a)(t:AllAtG P (k+1) r):AllAtG P k (a::r):=⟨h,t⟩
def AllInG.mem:∀{l:List c},AllInG P l->∀a∈l,P a
 |b::r,q,a,h=>by rcases mem_cons.mp h with rfl|h;exact q.1;exact AllInG.mem q.2 a h
section
variable{P:ϊ}{w:ό}{K:Frag}{h base:Heap}{mg:Str->Option Ξ}{T:Tab}{Pg:List Fn}{fi c:Nat}{x q m:Str}{ps:List Str}{st:Stmt}{f C:Addr}{oc kV dc pm cd ct:Ξ}{od an:Option Addr}{sl:Array (Option Ξ)}
def dOk(X:K.In h)(G:h.Ns mainGlobals mg)(o:OkD T Pg fi x x ps st)(a:nsIn K mainGlobals x=Φ (Φ (.ref f)))(l:K.lookup f=Φ ⟨oc,od,.func (fnOf x x (zaq st) (zaj st) (zaa st) .none kV dc pm an cd ct),sl⟩)(c:codeIn K cd x=Γ)
  (k:keepIn K (.ref f)=Γ):DefOk K mg T Pg fi x ps 0\/PrimOk P w K mg base T Pg fi x ps 0:=by
 let⟨F,N,d,e,g,i,n,p⟩:=o.ex;have b:=zcI (st:=st) l c k;exact .inl ⟨⟨F,x,st,_,f,_,N,d,e,b,g,i,n,p,mg_of X G a,λj r=>(Nat.le_zero.mp r).symm▸b.binds o.bd⟩⟩
abbrev ClAt(K:Frag)(mg:Str->Option Ξ)(T:Tab)(c:Nat)(x:Str):Prop:=∃C,Mks.cl[c]?=Φ C/\Cls K C/\mg x=Φ (.ref C)/\∀f,T.flds.contains f=Γ->NoAttr K C f
def clOk(X:K.In h)(G:h.Ns mainGlobals mg)(e:Mks.cl[c]?=Φ C)(a:nsIn K mainGlobals x=Φ (Φ (.ref C)))(b:plainGet K C Str.empty=Γ)(hd:hasDictIn K C=Γ)(d:plainOver K C=Γ)
  (g:findIn K (.ref C) "__setattr__"=Φ (Φ (.builtin "object.__setattr__"))) (n:AllInG (λf=>findIn K (.ref C) f=Φ Ψ) T.flds):ClAt K mg T c x:=
 ⟨C,e,⟨b,hd,d,g⟩,mg_of X G a,AllIn.get n⟩
def mOk0(o:OkD T Pg fi m q ps st)(l:K.lookup f=Φ ⟨oc,od,.func (fnOf m q (zaq st) (zaj st) (zaa st) .none kV dc pm an cd ct),sl⟩)(b:codeIn K cd q=Γ)(k:keepIn K (.ref f)=Γ)(e:d f):MOk K T Pg fi 0 d:=by let⟨F,N,g,i,j,n,p,r⟩:=o.ex;have a:=zcI (st:=st) l b k;exact⟨⟨F,m,q,st,_,f,_,N,ps,g,i,a,j,n,p,r,a.binds o.bd,e⟩⟩
def mOk(b:AllAtG (ClAt K mg T) 0 T.cls)(o:OkD T Pg fi m q ps st)(e:Mks.cl[c]?=Φ C)(ex:T.cls[c]?=Φ x)(t:findIn K (.ref C) m=Φ (Φ (.ref f)))(l:K.lookup f=Φ ⟨oc,od,.func (fnOf m q (zaq st) (zaj st) (zaa st) .none kV dc pm an cd ct),sl⟩)
  (d:codeIn K cd q=Γ) (k:keepIn K (.ref f)=Γ) (i:isFn K (.ref f)=Γ):MOk K T Pg fi 0 (ExM K c m):=by
 let⟨g,a,j,_⟩:=AllAt.get b c x ex;exact mOk0 o l d k ⟨g,a,j,by rw[e]at a;cases a;exact⟨t,i,k⟩⟩
def iOk(o:OkD T Pg fi "__init__" q ps st)(e:Mks.cl[c]?=Φ C)(mk:makesIn K C=Γ)(t:findIn K (.ref C) "__init__"=Φ (Φ (.ref f)))(a:keepIn K (.ref C)=Γ)(l:K.lookup f=Φ ⟨oc,od,.func (fnOf "__init__" q (zaq st) (zaj st) (zaa st) .none kV dc pm an cd ct),sl⟩)
 (b:codeIn K cd q=Γ) (k:keepIn K (.ref f)=Γ) (i:isFn K (.ref f)=Γ):MOk K T Pg fi 0 (ExI K c):=mOk0 o l b k ⟨C,e,mk,t,i,a⟩
def cOk(X:K.In h)(G:h.Ns mainGlobals mg)(o:OkD T Pg fi m q ps st)(a:nsIn K mainGlobals x=Φ (Φ (.ref C)))(g:specialIn K (.ref C) "__getattribute__"=Φ (Φ (.builtin "type.__getattribute__")))(r:readsIn K C (.type "type")=Γ)
  (t:findCls K (.ref C) (.type "type") m=Φ (.val (.ref f))) (l:K.lookup f=Φ ⟨oc,od,.func (fnOf m q (zaq st) (zaj st) (zaa st) .none kV dc pm an cd ct),sl⟩) (b:codeIn K cd q=Γ) (k:keepIn K (.ref f)=Γ):MOk K T Pg fi 0 (ExC K mg x m):=
 mOk0 o l b k ⟨C,_,mg_of X G a,g,r,t⟩
abbrev IsAt(K:Frag)(mg:Str->Option Ξ)(z:Str×List Nat):Prop:=∃D,mg z.1=Φ (.ref D)/\∀c C,Mks.cl[c]?=Φ C->IsaOk K C/\kitOne K (.ref C) (.ref D)=Φ (z.2.contains c)
abbrev CoAt(K:Frag)(z:Str×D):Prop:=∃i t,z.2=.int i/\nsIn K mainGlobals z.1=Φ (Φ (.int i t))
def coOk(a:nsIn K mainGlobals x=Φ (Φ (.int i t))):CoAt K (x,.int i):=⟨i,t,rfl,a⟩
end
abbrev okL(T:Tab)(F:Fn)(ps:List Str)(st:Stmt):Bool:=
 decide ((zaa st).kind=.function)&&(!(zaa st).isCoroutine&&(!(zaa st).isGenerator&&(decide T.lam.Nodup&&(decide (T.lam.take ps.length=ps)&&(ps.all (λx=>decide ((zaa st).names.lookup x=Φ .local)||decide ((zaa st).names.lookup x=Φ .cell)) &&
  ((zaa st).names.all (λy=>decide (y.2≠.free))&&(chkS T F.body T.lam (zaa st) (zaj st)&&(decide (F.np=ps.length)&&decide (F.nn=T.lam.length)))))))))
structure OkL(T:Tab)(Pg:List Fn)(fi:Nat)(x:Str)(ps:List Str)(nd:Nat)(st:Stmt):Prop where
 ex:∃F:Fn,Pg[fi]?=Φ F/\F.prim=Φ .lam/\FnScope T.lam ps (zaa st)/\chkS T F.body T.lam (zaa st) (zaj st)=Γ/\F.np=ps.length/\F.nn=T.lam.length
def zte{st}(e:b[c]?=Φ F)(d:F.prim=Φ .lam)(h:okL T F ps st=Γ):OkL T b c x ps p st:=by simp![okL,Ε,ϟ,decide_eq_true_eq,all_eq_true,Ϝ]at h;let⟨f,g,i,j,k,l,m,n,o,a⟩:=h;exact⟨F,e,d,⟨f,g,i,j,k,l,m⟩,n,o,a⟩
def ztx{K}{st}{u kV g y ct}(lk:K.lookup f=Φ ⟨oc,od,.func (fnOf x a (zaq st) (zaj st) (zaa st) u kV g y C (.ref c) ct),I⟩)(k:codeIn K (.ref c) a=Γ)(J:codeHdIn K c T.lamP=Γ)(L:BM l base)(o:(T.lamP,a ++ ".<locals>." ++ "<lambda>")∈Mks.ts)(one:∀p∈Mks.ts,p.1=T.lamP->p.2=a ++ ".<locals>." ++ "<lambda>")(S:FnScope T.lam ps (zaa st))(M:chkS T F.body T.lam (zaa st) (zaj st)=Γ)(z:t[N]?=Φ F)(O:F.prim=Φ .lam)(U:F.np=ps.length)(Y:F.nn=T.lam.length)(h3:3<=n)(hm:3<=m)(tab:TabOk T (callF t n) m P w K l base):
  FnOk P w K l base CX0 (m+2) f (fnOf x a (zaq st) (zaj st) (zaa st) u kV g y C (.ref c) ct) ps (spF K (callF t (n+1)) N):=by
 refine zrb lk k S (λvs H Q E h=>zbK z U h) λA b s H vs Q E hr h=>?_;let⟨ι,S0,ds,r,hh,i⟩:=h;have G:Gd T (callF t n) m T.lam (zaa st) (cxOf CX0 P w K l base T.lam a (zaa st) f (.ref c) A b s H E).nox:=⟨rfl,S.nd,λx e=>e,λx e=>e,λx e=>.inl e,λx e=>e,.inl λ_=>rfl,rfl,rfl,hr,tab,λ_=>⟨hm,c,⟨L,rfl,J,o,one⟩⟩⟩;refine⟨_,(zaW F.body G M).nox,?_⟩;simp![callF,z,O,h3,if_true]at i;split at i;rename_i c;rw[zab]at i;refine⟨za5 F ds,ι,S0,_,RS.start r c Y,hh,i,?_⟩;intro fl ι' H' S' B j q;cases fl with|nx δ'=>exact λσ' hs'=>q .non H' ι' B rfl j|rt d=>exact λv rv=>q v H' ι' B rv j
 exact i.elim
def lOk{K}{st}{y m kV b q ct}(X:K.In h)(G:h.Ns mainGlobals d)(z:BM d base)(o:OkL T r s x ps g st)(i:(T.lamP,x ++ ".<locals>." ++ "<lambda>")∈Mks.ts)(one:∀p∈Mks.ts,p.1=T.lamP->p.2=x ++ ".<locals>." ++ "<lambda>")(A:∀j,j<=g->Binds K (fnOf x x (zaq st) (zaj st) (zaa st) m kV b q B (.ref c) ct) ps (List.replicate j Ξ.none))(a:nsIn K mainGlobals x=Φ (Φ (.ref f)))(l:K.lookup f=Φ ⟨y,M,.func (fnOf x x (zaq st) (zaj st) (zaa st) m kV b q B (.ref c) ct),N⟩)(C:codeIn K (.ref c) x=Γ)(k:keepIn K (.ref f)=Γ)(e:codeHdIn K c T.lamP=Γ):DefOk K d T r s x ps g\/PrimOk P w K d base T r s x ps g:=by
 let⟨F,t,u,E,I,v,J⟩:=o.ex;exact .inr ⟨⟨F,.lam,f,_,t,u,v,mg_of X G a,k,A,λn L tab=>ztx l C e z i one E I t u v J L (by lia) tab⟩⟩
structure OkE(T:Tab)(Pg:List Fn)(fi:Nat)(ps:List Str)(st:Stmt):Prop where
 ex:∃(F:Fn) (N:List Str),Pg[fi]?=Φ F/\F.prim=Ψ/\FnScope N ps (zaa st)/\ChkD T F.body N (zaa st) (zaj st)/\F.np=ps.length/\F.nn=N.length
def ztf{st}(N)(e:d[f]?=Φ F)(h:okD T F N ps st=Γ):OkE T d f ps st:=by simp![okD,Ε,ϟ,decide_eq_true_eq,all_eq_true,Ϝ,Option.isNone_iff_eq_none]at h;let⟨g,i,j,k,l,m,n,o,p,a,b,c⟩:=h;exact⟨F,N,e,b,⟨g,i,j,k,l,m,n⟩,⟨o,c⟩,p,a⟩
def iOkD{K}{st}{s kV u a m ct v}(o:OkE T w x ps st)(y:ps.length=n+j)(h:∀(d:Addr)(kV b a:Ξ)(p:Option Addr)(g ct:Ξ)(us:List Ξ),us.length=n->∃k,bindArgs (fnOf "__init__" q (zaq st) (zaj st) (zaa st) (.ref d) kV b a p g ct) ⟨us,[]⟩=seqItems? (.ref d)>>=k/\k (Φ items)=pure (ps.zip (us++List.replicate j Ξ.none)))(e:Mks.cl[c]?=Φ C)(mk:makesIn K C=Γ)(t:findIn K (.ref C) "__init__"=Φ (Φ (.ref f)))(z:keepIn K (.ref C)=Γ)(l:K.lookup f=Φ ⟨s,O,.func (fnOf "__init__" q (zaq st) (zaj st) (zaa st) (.ref d) kV u a p m ct),Q⟩)(A:codeIn K m q=Γ)(k:keepIn K (.ref f)=Γ)(i:isFn K (.ref f)=Γ)(B:K.lookup d=Φ ⟨v,U,.seq items Y,xs⟩):MOk K T w x j (ExI K c):=by
 let⟨F,N,E,G,I,J,L,M⟩:=o.ex;have r:=zcI (st:=st) l A k;exact⟨⟨F,"__init__",q,st,_,f,_,N,ps,E,G,r,I,J,L,M,zo8 (ds:=List.replicate j Ξ.none) n (by rw[length_replicate];exact y) r B (h d),C,e,mk,t,i,z⟩⟩
def lOkD{K}{st}{z kV b g ct A}(X:K.In h)(G:h.Ns mainGlobals i)(B:BM i base)(o:OkL T t u x ps m st)(r:(T.lamP,x ++ ".<locals>." ++ "<lambda>")∈Mks.ts)(one:∀p∈Mks.ts,p.1=T.lamP->p.2=x ++ ".<locals>." ++ "<lambda>")(C:∀j,j<=m->∃n,ps.length=n+j/\∀(d:Addr)(kV b g:Ξ)(v:Option Addr)(s ct:Ξ)(us:List Ξ),us.length=n->∃k,bindArgs (fnOf x x (zaq st) (zaj st) (zaa st) (.ref d) kV b g v s ct) ⟨us,[]⟩=seqItems? (.ref d)>>=k/\k (Φ items)=pure (ps.zip (us++List.replicate j Ξ.none)))(a:nsIn K mainGlobals x=Φ (Φ (.ref f)))(l:K.lookup f=Φ ⟨z,L,.func (fnOf x x (zaq st) (zaj st) (zaa st) (.ref d) kV b g v (.ref c) ct),M⟩)(y:codeIn K (.ref c) x=Γ)(k:keepIn K (.ref f)=Γ)(e:codeHdIn K c T.lamP=Γ)(E:K.lookup d=Φ ⟨A,N,.seq items O,xs⟩):DefOk K i T t u x ps m\/PrimOk P w K i base T t u x ps m:=
 lOk X G B o r one (λj I=>by let⟨n,J,q⟩:=C j I;exact zo8 (ds:=List.replicate j Ξ.none) n (by rw[length_replicate];exact J) (zcI (st:=st) l y k) E (q d)) a l y k e
def all_of{l:PySem.W.OpenLaw}{K}{st}{E kV A B y ct}(X:K.In h)(G:h.Ns mainGlobals g)(z:g "law"=Φ (.ref I))(o:OkD T r b "law" "law" [C] st)(J:Mks.cl.length<=T.cls.length)(u:AllAtG (ClAt K g T) 0 T.cls)(L:AllInG (λx=>nsIn K mainGlobals x=Φ Ψ) T.blt)(M:AllInG (CoAt K) T.cons)(hd:∀base:Heap,BM g base->AllAtG (λb q=>DefOk K g T r b q.1 q.2.1 q.2.2\/PrimOk l.prog w K g base T r b q.1 q.2.1 q.2.2) 0 T.fns)(O:AllAtG (ClAt K g T) 0 T.cls->AllInG (λq=>MOk K T r q.2.2 0 (ExM K q.1 q.2.1)) T.mts)(Q:AllInG (λq=>MOk K T r q.2.1 q.2.2 (ExI K q.1)) T.inits)(p:AllInG (λq=>MOk K T r q.2.2 0 (ExC K g q.1 q.2.1)) T.cms)(hs:AllInG (IsAt K g) T.isas)(a:nsIn K mainGlobals "law"=Φ (Φ (.ref f)))(U:K.lookup f=Φ ⟨E,od,.func (fnOf "law" "law" (zaq st) (zaj st) (zaa st) .none kV A B Y y ct),sl⟩)(c:codeIn K y "law"=Γ)(k:keepIn K (.ref f)=Γ):
  ∃fd:FuncData,(∀(s:Β)(v:Ξ),BindsTo s fd ⟨[v],[]⟩ [(C,v)])/\∀base:Heap,K.In base->base.Ns mainGlobals g->BM g base->FnOk l.prog w K g base CX0 (2*n+2) I fd [C] (spF K (callF r (n+1)) b):=by
 have e:=z.symm.trans (mg_of X G a);cases e;let⟨F,N,h1,h2,h3,h4,h5,h6⟩:=o.ex;refine⟨fnOf "law" "law" (zaq st) (zaj st) (zaa st) .none kV A B Y y ct,λs v=>.of_eq (o.bd _ _ _ _ _ _ [v] rfl),λbase _ _ bm=>?_⟩;refine zl6 (zrZ (λx p=>PySem.W.mg_none_of X G (AllIn.get L x p)) (λx d p=>?_) (λb x ps nd hf=>AllAt.get (hd base bm) b _ hf)
  ⟨AllAt.get u,λc m b p=>AllIn.get (O u) (c,m,b) p,λc b j p=>AllIn.get Q (c,b,j) p,λx m b h=>AllIn.get p (x,m,b) h,J,λx cs p=>AllIn.get hs (x,cs) p⟩ n) (zcI (st:=st) U c k) h1 h3 h4 h5 h6 h2
 let⟨i,t,e,q⟩:=M.mem (x,d) (ϓ p);cases(show d=.int i from e);exact⟨rfl,_,mg_of X G q,⟨_,rfl⟩⟩
abbrev H0(K:Frag)(a:Addr)(o:Obj)(xs:List V):Hp:=λb=>if b∈Mks.ts.map (·.1) then Φ (.tbl #[]) else if b=a then(match K.lookup a with|some _=>Ψ|none=>Φ (.frz o (.lst xs))) else Ψ
def zlq{K}(KX:K.In c.heap)(I:c.heap.Ns mainGlobals A)(Y:c.heap.Ns builtinsNs mb)(hbb:∀x:Str,x≠"__name__"->mb x=bootBuiltins x)(J:c.heap.NoLimit)(hg:c.gens = #[])(bm:BM A c.heap)(G:c.heap.get? a=Φ {cls:=.type "list",data:=.seq vs.toArray})(hi:IntsAre vs ns)(hl:ns.length<=sizeLine)(hr:Room k callerA)(g:∀p∈Mks.ts,c.heap.get? p.1=Φ (tabObj #[])/\K.lookup p.1=Ψ/\isCodeTable c.heap p.1)(F:∀base:Heap,K.In base->base.Ns mainGlobals A->BM A base->FnOk P w K A base CX0 k fa fd [x] sp)(B:∀(s:Β)(u:Ξ),BindsTo s fd ⟨[u],[]⟩ [(x,u)])(hsp:∀H:Hp,FixL K H a (ns.map V.int)->TB H->sp [.ref a] H (λv _=>v=.bl Γ) λ_ _ _=>False):
  codeAny (model P w) callerA (.call (.ref fa) ⟨[.ref a],[]⟩) (λr s'=>r=.ok (.ret (.bool Γ))/\OldK c.heap s'.heap/\s'.os=c.os/\AllBare s'.gens) c:=by
 have rv:=zdI hi;have L:=hi.length;generalize hH:H0 K a {cls:=.type "list",data:=.seq vs.toArray} (ns.map V.int)=H;have T:∀b,H b=Ψ\/((∃p∈Mks.ts,p.1=b)/\H b=Φ (.tbl #[]))\/(b=a/\K.lookup a=Ψ/\H b=Φ (.frz {cls:=.type "list",data:=.seq vs.toArray} (.lst (ns.map V.int)))):=λb=>by
  rw[<-hH];unfold H0;by_cases C:b∈Mks.ts.map (·.1);let⟨p,i,e⟩:=mem_map.mp C;exact .inr (.inl ⟨⟨p,i,e⟩,if_pos C⟩);rw[if_neg C];by_cases E:b=a;rw[if_pos E];cases e:K.lookup a with|some o=>exact .inl rfl|none=>exact .inr (.inr ⟨E,rfl,rfl⟩)
  rw[if_neg E];exact .inl rfl
 have tb:TB H:=λp i=>⟨#[],by rw[<-hH];unfold H0;exact if_pos (mem_map.mpr ⟨p,i,rfl⟩),trivial,λpos v e=>by simp[codeAmong]at e⟩;have na:a∉Mks.ts.map (·.1):=λz=>by let⟨p,i,e⟩:=mem_map.mp z;have:=(g p i).1;rw[e,G]at this;cases this
 have hx:FixL K H a (ns.map V.int):=by cases e:K.lookup a with| some o=>have U:=KX a o e;rw[G]at U;cases U;exact .inr ⟨_,vs.toArray,_,e,rfl,rfl,rfl,by rw[size_toArray,L];exact hl,by simpa using rv⟩| none=>refine .inl ⟨{cls:=.type "list",data:=.seq vs.toArray},?_⟩;rw[<-hH];unfold H0;rw[if_neg na,if_pos rfl,e]
 have hok:HOk P w H c.heap:=λb u e=>by rcases T b with z|⟨⟨p,i,rfl⟩,z⟩|⟨rfl,_,z⟩;rw[z]at e;exact nS e;rw[z]at e;cases e;exact(g p i).1;rw[z]at e;cases e;exact⟨G,by rw[length_map];exact hl,vs,_,rv,G⟩
 have M:∀{b:Addr}{o:Obj},c.heap.get? b=Φ o->(∀xs n,o.data≠.seq xs n)->(∀fs,o.data≠.fields fs)->H b=Ψ:=λ{b o} e n1 n2=>by rcases T b with z|⟨⟨p,i,rfl⟩,_⟩|⟨rfl,_,_⟩;exact z;rw[(g p i).1]at e;cases e;exact absurd rfl (n2 _);rw[G]at e;cases e;exact absurd rfl (n1 _ _)
 have f:∀{b:Addr}{o:Obj},c.heap.get? b=Φ o->H b=Ψ->(hidT c.heap H).get? b=Φ o:=λe n=>znQ e n;have j:∀{b:Addr}{m:Str->Option Ξ},c.heap.Ns b m->(hidT c.heap H).Ns b m:=λ{b m} ⟨o,es,ep,e,d,r⟩=>⟨o,es,ep,f e (M e (λ_ _ z=>by rw[d]at z;cases z) λ_ z=>by rw[d]at z;cases z),d,r⟩;have N:K.In (hidT c.heap H):=λb o e=>f (KX b o e) (by
  rcases T b with z|⟨⟨p,i,rfl⟩,_⟩|⟨rfl,z,_⟩;exact z;rw[(g p i).2.1]at e;exact nS e;rw[z]at e;exact nS e)
 have hbm:BM A (hidT c.heap H):=by let⟨m,o,C,E,h3,h4,h5,h6,h7⟩:=bm;exact⟨m,o,C,E,h3,f h4 (M h4 (λ_ _ z=>by rw[h7]at z;cases z) λ_ z=>by rw[h7]at z;cases z),h5,h6,h7⟩
 have hM:Mod K A (hidT c.heap H):=⟨N,j I,⟨mb,j Y,hbb⟩,let ⟨mc,C,E⟩:=J;⟨mc,j C,E⟩⟩;have e0:Env0 P w K A (hidT c.heap H) callerA [] c H:=⟨rfl,hM,λb o e=>zqG e,le_of_eq (zlQ _ _),trivial,λb Y=>absurd (show b∈([]:List Addr) from Y) (by simp),hok,.of_eq hg⟩;refine Ϟ ((F _ N (j I) hbm).run callerA [] c H ⟨[.ref a],[]⟩ [.ref a] [.ref a] _ _ hr e0 (B c (.ref a)) (.cons rfl .nil) (hsp H hx tb)) λr s' h=>?_;cases r with
 |error e=>exact False.elim h| ok fl=>
  cases fl with
  |ret u=>
   let⟨v,H',os,O,un,l,r',q⟩:=h;have q':v=.bl Γ:=q;subst q';obtain rfl:u=Ξ.bool Γ:=r';have Q:∀b o,c.heap.get? b=Φ o->asItWas c.heap s'.heap b o/\∃o',s'.heap.get? b=Φ o':=λb o e=>by rcases T b with z|⟨⟨p,i,rfl⟩,z⟩|⟨rfl,_,z⟩;have k:=un.keep b o e z (by intro y;exact absurd (show b∈([]:List Addr) from y) (by simp)) (by simp);exact⟨.inl k,_,k⟩;let⟨t,z2⟩:=un.tbls _ _ z;have k:s'.heap.get? p.1=Φ (tabObj (#[]++t)):=l _ _ z2;have U:=(g p i).1;rw[U]at e;cases e;exact⟨.inr (.inl ⟨(g p i).2.2,rfl,#[],t,rfl,k⟩),_,k⟩;have z2:=un.frzs _ _ _ z;have k:=(l _ _ z2).1;rw[G]at e;cases e;exact⟨.inl k,_,k⟩
   exact⟨rfl,⟨λb o e=>(Q b o e).1,λb o e=>(Q b o e).2⟩,os,O⟩
  |_=>exact False.elim h
def walk_ofT{l:PySem.W.OpenLaw}{YP}{K:Params->Frag}{sp:ό->Sp}(Q:l.most=Φ n)(r:n<=sizeLine)(t:d.params.defaults=[])(T:Room k callerA)(U:∀(w:ό)(h:Heap),YP w h->(K w.params).In h)(hT:∀(w:ό)(h:Heap),YP w h->∀p∈Mks.ts,h.get? p.1=Φ (tabObj #[]))(hK:∀(w:ό),∀p∈Mks.ts,(K w.params).lookup p.1=Ψ/\∃c,codeHdIn (K w.params) c p.1=Γ)(F:∀(w:ό)(g:Str->Option Ξ)(m:Addr)(h:Heap),(K w.params).In h->h.Ns mainGlobals g->g d.name=Φ (.ref m)->
   ∃fd:FuncData,(∀(s:Β)(u:Ξ),BindsTo s fd ⟨[u],[]⟩ [(x,u)])/\
    ∀base:Heap,(K w.params).In base->base.Ns mainGlobals g->BM g base->FnOk l.prog w (K w.params) g base CX0 k m fd [x] (sp w))(y:∀(w:ό)(H:Hp)(a:Addr)(ns:List Int),ns.length<=n->FixL (K w.params) H a (ns.map V.int)->TB H->sp w [.ref a] H (λv _=>v=.bl Γ) λ_ _ _=>False):
  PySem.W.WalkO q A XP YP l.row.toRowW d [] (λf vs=>PySem.call f vs):=by
 refine Att.attach_call Q t λw J L g mb m o pm cd doc a vs ns G Y ho M hcd B j i b hg=>?_;have C:=U w _ Y;let⟨fd,hb,hF⟩:=F w g m _ C G.T.g B;let⟨N,ob,b1,b2,b3,b4,b5,E⟩:=G.T.bmain;have I:N≠mainGlobals:=λz=>by let⟨o,es,ep,e,M,_⟩:=G.T.g;rw[z,e]at b3;cases b3;rw[M]at E;cases E
 refine zlq C G.T.g G.T.b G.T.builtins G.T.nolimit hg ⟨N,ob,b1,b2,I,b3,b4,b5,E⟩ j i (le_trans b r) T (λp O=>?_) hF hb λH hx tb=>y w H a ns b hx tb;let⟨k1,c,k2⟩:=hK w p O;have e:=hT w _ Y p O;exact⟨e,k1,((PySem.W.codeHd_of_K C k2).tab e).isCodeTable⟩
abbrev zeH:CE:=.tup (.cons (.neg (.ix (.loc 0) (.con (.int 1)))) (.cons (.ix (.loc 0) (.con (.int 0))) .nil))
def ztN(S)(k v):evE noCF zeH [Φ (.tup [.int k,.int v])] S=.ok (.tup [.int (-v),.int k]) S:=by show Out.ok _ _=_;simp[zeH,evEs,lift,Out.bind,zbh,atI,ixN]
def znL(I:Inv X g M H s)(N:Room 2 C)(O:Env0 X.prog X.w X.K X.mg X.base C X.stack s H)(L:LamAt H f name h c body scope)(hs:FnScope ["row"] ["row"] scope)(U:∀(o Y ct:Ξ),bindArgs (kla_fn name h c body scope [] o Y ct) ⟨[u],[]⟩=pure [(("row":Str),u)])(ck:chkE noTab zeH ["row"] scope body=Γ)(tb:TB H)(ha:H a=Φ (.tup [.int k,.int v]))(hu:L2.RelV (.ref a) u):
  wpAny (model X.prog X.w) C (call (.ref f) [u]) (λy s'=>∃b H',y=.ref b/\Inv X g M H' s'/\H' b=Φ (.tup [.int (-v),.int k])/\Ext [] H [] H'/\Un (frs X.stack) [] H H' s.heap s'.heap) (λ_ _=>False) s:=by
 let⟨o,ct,G,oc,vs,t,h1,h2,h3,h4⟩:=L.ex;have of:=(I.hok f _ h1).1;have oo:=(I.hok G _ h2).1;refine wpAny_call (Ϟ (zls (CX:=CX0) (E:=λ_ _ _=>False) (Q:=λw H'=>∃b,w=V.ref b/\H' b=Φ (.tup [.int (-v),.int k])/\Ext [] H [] H') (vs:=[V.ref a]) (us:=[u]) (t:=tE X.K noCF zeH) hs N O of ⟨G,oc,vs,t,rfl,oo,h3,h4⟩
  (.of_eq (U o _ ct)) (.cons hu .nil) rfl (λp=>PE.nox (zag zeH (T:=noTab) (k:=0) ⟨rfl,hs.nd,λx e=>e,λx e=>e,λx e=>.inl e,λx e=>e,.inl λ_=>rfl,rfl,rfl,p,ziC,λz=>absurd (show(["row"]:List Str)=noTab.lam from z) (by decide)⟩ ck)) ?_) λr s' q=>?_)
 refine⟨[Φ (.tup [.int k,.int v])],[],⟨[],[],[]⟩,λd S=>d=.tup [.int (-v),.int k],⟨rfl,λi d l=>?_⟩,zsG tb,by rw[ztN];exact rfl,?_⟩
 . match i,l with|0,l=>cases l;exact⟨.ref a,rfl,a,_,rfl,ha,_,_,rfl,rfl,_,_,rfl,rfl,rfl⟩|j+1,l=>simp at l
 rintro w H' ⟨d,ι',S',x,n,hh,rfl⟩;let⟨b,xs,rfl,hx,p1,p2,rfl,q1,p3,p4,rfl,q3,q4⟩:=n;cases q1;cases q3;cases q4;exact⟨b,rfl,hx,x.cut⟩;cases r with
 |error e=>exact q.elim| ok fl=>
  cases fl with
  |ret y=>
   let⟨w,H',os,m,J,A,n,b,rfl,B,x⟩:=q;cases y with
   |ref z=>
    have:z=b:=by simpa[L2.RelV]using n
    exact⟨b,H',by rw[this],I.call' os J A m (λb z=>absurd z (by simp)),B,x,J⟩
   |_=>simp[L2.RelV]at n
  |_=>exact q.elim
def zmC(f:out.Perm rows)(g:out.Pairwise λa b=>zfm a b=Γ):out=zbi rows:=by
 refine List.Perm.eq_of_pairwise (le:=λa b=>zfm a b=Γ) (λa b _ _ d e=>?_) g (List.pairwise_mergeSort (λa b c d e=>?_) (λa b=>?_) rows) (f.trans (List.mergeSort_perm rows zfm).symm);let⟨h,i⟩:=a;let⟨b1,b2⟩:=b;simp![zfm,decide_eq_true_eq]at d e;have j:h=b1:=by lia
 have k:i=b2:=by lia
 rw[j,k];simp![zfm,decide_eq_true_eq]at d e⊢;lia;simp![zfm,Ϝ,decide_eq_true_eq];lia
def znk{a:Type}{xs:List a}{p:List Nat}(d)(b:p.Perm (List.range xs.length)):(p.map λi=>xs.getD i d).Perm xs:=by have h:=b.map λi=>xs.getD i d;refine h.trans (List.Perm.of_eq ?_);apply List.ext_getElem;simp;intro i e c;simp[c]
section
variable{X:Cx}{pins:List (Addr×Obj)}{σ:L2.St}{H:Hp}{s:Β}{A':ϐ}{D kS:Addr}{rows:List (Int×Int)}
def zhN(ok:HOk P w H h)(e:H b=Φ (.tup [.int x,.int y])):∃(o:Obj) (t u:Tok) (n:Nat),h.get? b=Φ o/\o.cls=.type "tuple"/\o.data=.seq #[.int x t,.int y u] n:=by let⟨_,a,r,o,c,d,n,f⟩:=ok b _ e;cases r with| cons g r=>cases r with| cons i r=>cases r with| nil=>let⟨t,rfl⟩:=g;let⟨u,rfl⟩:=i;exact⟨o,t,u,n,c,d,f⟩
def ztC(ok:HOk X.prog X.w H s.heap)(e:H b=Φ (.tup [.int x,.int y]))(l:H c=Φ (.tup [.int a,.int f]))(q:Q (decide (x<a\/(x=a/\y<f))) s):wpAny (model X.prog X.w) A' (keyLt' (tuples' Γ) (.ref b) (.ref c)) Q E s:=by
 let⟨o,t,u,n,m,_,p⟩:=zhN ok e;let⟨w,r,v,A,h,_,i⟩:=zhN ok l;refine PySem.W.kat_lt m p h i (kat_cons (wpAny_eqBool_int ?_));by_cases d:x=a;have j:(x==a)=Γ:=by simpa using d
 rw[j];refine PySem.W.kat_yes (kat_cons (wpAny_eqBool_int ?_));by_cases k:y=f;have g:(y==f)=Γ:=by simpa using k
 rw[g];refine PySem.W.kat_yes (PySem.W.kat_nil ?_);have:decide (x<a\/(x=a/\y<f))=decide ((#[Ξ.int x t,Ξ.int y u]:Array Ξ).size<(#[Ξ.int a r,Ξ.int f v]:Array Ξ).size):=by rw[decide_eq_false (by lia)];rfl
 rw[this]at q;exact q;have g:(y==f)=Δ:=by simpa using k
 rw[g];refine kat_no (kat_one _ _ (wpAny_lt_int ?_));have:decide (x<a\/(x=a/\y<f))=decide (y<f):=by by_cases z:y<f;rw[decide_eq_true z,decide_eq_true (.inr ⟨d,z⟩)];rw[decide_eq_false z,decide_eq_false (by lia)]
 rw[this]at q;exact q;have j:(x==a)=Δ:=by simpa using d
 rw[j];refine kat_no (oneLt_int ?_);have:decide (x<a\/(x=a/\y<f))=decide (x<a):=by by_cases z:x<a;rw[decide_eq_true z,decide_eq_true (.inl z)];rw[decide_eq_false z,decide_eq_false (by lia)]
 rw[this]at q;exact q
def ziJ(ok:HOk P w H h):∀(ks:List Ξ),(∀k∈ks,∃b x y,k=Ξ.ref b/\H b=Φ (.tup [.int x,.int y]))->∃a:List Ξ,KatTups h ks a/\a.length=ks.length/\∀v∈a,∃n t,v=Ξ.int n t
 | [],_=>⟨[],KatTups.nil,rfl,λv h=>by cases h⟩| k::ks,d=>by let⟨a,f,g,i⟩:=ziJ ok ks λk h=>d k (Κ _ h);let⟨b,x,y,rfl,e⟩:=d k Μ;let⟨o,t,u,n,j,l,m⟩:=zhN ok e;refine⟨.int x t::a,KatTups.cons j l m rfl f,by simp[g],λv c=>?_⟩;rcases mem_cons.mp c with rfl|c;exact⟨x,t,rfl⟩;exact i v c
def znK{ks:List Ξ}(ok:HOk X.prog X.w H s.heap)(a:∀k∈ks,∃b x y,k=Ξ.ref b/\H b=Φ (.tup [.int x,.int y]))(f:1<=ks.length)(q:Q (tuples' Γ) s):
  wpAny (model X.prog X.w) A' (keyKind' ks.toArray) Q E s:=by
 let⟨g,c,h,d⟩:=ziJ ok ks a;refine PySem.W.kat_kind (T:=.type "int") c (by lia) (λv e=>?_) rfl q;let⟨n,t,rfl⟩:=d v e;exact .now
end
abbrev LtR(a b:Int×Int):Prop:=-a.2 < -b.2\/(-a.2 = -b.2/\a.1<b.1)
noncomputable instance:DecidableRel LtR:=λa b=>inferInstanceAs (Decidable (-a.2 < -b.2\/(-a.2 = -b.2/\a.1<b.1)))
abbrev RowA(H:Hp)(a:Addr)(r:Int×Int):Prop:=H a=Φ (.tup [.int r.1,.int r.2])
abbrev KeyA(H:Hp)(b:Addr)(r:Int×Int):Prop:=H b=Φ (.tup [.int (-r.2),.int r.1])
def ordR:Ord LtR:=by refine⟨λr=>by unfold LtR;lia,λ{a b c} h k=>by unfold LtR at *;lia,λ{a b} h=>?_⟩;let⟨x,y⟩:=a;let⟨u,v⟩:=b;unfold LtR;dsimp only;by_cases e:y=v;subst e;have:x≠u:=λz=>h (by rw[z]);lia;lia
def zse{X:Cx}{c:List (Addr×Obj)}{i:L2.St}{H:Hp}{e:ϐ}{f:Addr}{name d:Str}{a:Arguments}{body:Expr}{scope:Scope}(j:Room 2 e)(l:∀H s,Inv X c i H s->Env0 X.prog X.w X.K X.mg X.base e X.stack s H)(L:LamAt H f name d a body scope)(hs:FnScope ["row"] ["row"] scope)
  (m:∀(n o ct u:Ξ),bindArgs (kla_fn name d a body scope [] n o ct) ⟨[u],[]⟩=pure [(("row":Str),u)]) (p:chkE noTab zeH ["row"] scope body=Γ) (t:TB H):SortK X c i e H f RowA KeyA (tuples' Γ) LtR where
 upR:=λk h=>k.tups _ _ h
 upK:=λk h=>k.tups _ _ h
 call:=λI x v=>znL I j (l _ _ I) (L.up x.kp) hs (λ_ _ _=>m _ _ _ _) p (x.kp.tab t) v rfl
 kind:=λI w g q=>znK I.hok (λk y=>(w k y).elim λb z=>z.elim λr z=>⟨b,_,_,z.1,z.2⟩) g q
 less:=λI g A q=>ztC I.hok g A q
 ord:=ordR
def PlcG.tally(h:PlcG LtR rows p):(p.map λi=>rows.getD i (0,0))=zbi rows:=zmC (znk _ h.perm) (h.asc.imp λ{a b} z=>by simp![zfm,decide_eq_true_eq];unfold LtR at z;lia)
section
variable{X:Cx}{pins:List (Addr×Obj)}{σ:L2.St}{H H':Hp}{s:Β}{b:Addr}{o:HO}
def zeK:∀(as:List Addr)(rows:List (Int×Int)){H:Hp},Inv X pins σ H s->as.length=rows.length->as.Pairwise (· < ·)->(∀a∈as,Own X pins a/\H a=Ψ)->
  (∀(j:Nat)(a:Addr),as[j]?=Φ a->∃(r:Int×Int) (t u:Tok),rows[j]?=Φ r/\s.heap.get? a=Φ {cls:=.type "tuple",data:=.seq #[.int r.1 t,.int r.2 u]})->
  ∃H',Inv X pins σ H' s/\Ext [] H [] H'/\(∀c,c∉as->H' c=H c)/\∀(j:Nat)(a:Addr),as[j]?=Φ a->∃r:Int×Int,rows[j]?=Φ r/\H' a=Φ (.tup [.int r.1,.int r.2])
 | [],rows,H,I,g,_,_,_=>⟨H,I,Ext.refl _ _,λc _=>rfl,λj a e=>by simp at e⟩|a::as,[],H,I,g,_,_,_=>by simp at g| a::as,r::rows,H,I,g,m,h,i=>by
  let⟨n,l⟩:=h a Μ;let⟨y,t,u,p,v⟩:=i 0 a rfl;cases p;have f:=ϥ.mp m;have w:Inv X pins σ (upd H a (.tup [.int r.1,.int r.2])) s:=zbH I n l ⟨by simp[Υ],[.int r.1 t,.int r.2 u],.cons ⟨t,rfl⟩ (.cons ⟨u,rfl⟩ .nil),_,v,rfl,_,rfl⟩;let⟨H',J,x,k,q⟩:=zeK as rows w (by simpa using g) f.2 (λc d=>⟨(h c (Κ _ d)).1,by
   rw[zad (ne_of_gt (f.1 c d))];exact(h c (Κ _ d)).2⟩) λj c e=>i (j+1) c (by simpa using e)
  refine⟨H',J,(zfX l).trans x,λc d=>?_,λj c e=>?_⟩;rw[k c (λz=>d (Κ _ z)),zad (λz=>d (by rw[z];exact Μ))];cases j with|zero=>cases e;exact⟨r,rfl,x.kp.tups _ _ zaf⟩|succ j=>exact q j c (by simpa using e)
end
abbrev zbC(rows:List (Int×Int)):List (Key×V):=rows.map λr=>(.inl r.1,.int r.2)
def zlt:∀{rows:List (Int×Int)}{vs:List (Key×Ξ)},KV (zbC rows) vs->vs.length=rows.length/\∀(j:Nat) k v,vs[j]?=Φ (k,v)->∃(r:Int×Int) (t:Tok),rows[j]?=Φ r/\k=.inl r.1/\v=.int r.2 t
 | [],vs,h=>by cases h;exact⟨rfl,λj k v e=>by simp at e⟩| r::rows,vs,h=>by cases h with| cons b d=>rename_i q vs;let⟨a,c⟩:=zlt d;refine⟨by simp[a],λj k v e=>?_⟩;cases j with| zero=>cases e;let⟨f,t,g⟩:=b;exact⟨r,t,rfl,f.symm,g⟩|succ j=>exact c j k v (by simpa using e)
section
variable{X:Cx}{pins:List (Addr×Obj)}{σ:L2.St}{H:Hp}{s:Β}{d r f:Addr}{rows:List (Int×Int)}{name qual:Str}{params:Arguments}{body:Expr}{scope:Scope}
structure Tld(X:Cx)(pins:List (Addr×Obj))(σ:L2.St)(H:Hp)(rows:List (Int×Int))(D:Addr)(s':Β):Prop where
 ex:∃(H':Hp) (ts:List Addr),Inv X pins σ H' s'/\Ext [] H [] H'/\H D=Ψ/\H' D=Φ (.lst (ts.map V.ref))/\ts.length=rows.length/\∀(j:Nat)(t:Addr),ts[j]?=Φ t->∃q:Int×Int,(zbi rows)[j]?=Φ q/\H' t=Φ (.tup [.int q.1,.int q.2])
def zkf(I:Inv X pins σ H s)(hh:X.A.handled=Ψ)(hr:Room 2 X.A.in1.in1)(L:LamAt H f name qual params body scope)(hs:FnScope ["row"] ["row"] scope)(v:∀(pm cd ct u:Ξ),bindArgs (kla_fn name qual params body scope [] pm cd ct) ⟨[u],[]⟩=pure [(("row":Str),u)])(ck:chkE noTab zeH ["row"] scope body=Γ)(tb:TB H)(hd:H d=Φ (.dK (zbC rows)))(hv:s.heap.IsItemsView r d)(h64:rows.length<64)(q:∀D s',Tld X pins σ H rows D s'->Q (.ref D) s'):
  wpAny (model X.prog X.w) X.A (call (.builtin "sorted") [.ref r] [(Str.ofString "key",.ref f)]) Q E s:=by
 let⟨_,hsys,B,kv,od,es,ep,ho,hex,hda,hko,hpr,O⟩:=I.hok d _ hd;let⟨c,T⟩:=zlt kv;have hm:s.heap.DictAt (zar X.prog X.w) d B ep:=⟨od,es,ho,hex,hda,hko,hpr,O⟩;refine call_function_entry_kw kind_sorted plain_sorted entry_sorted (ksk_s1 _ _) ?_;unfold Builtin.«sorted»;refine Θ (m:=checkCount "sorted" 1 1 _) (Ω (Θ ?_));refine PySem.W.kdx_collect (A:=X.A.in1) (knd:=zar X.prog X.w) (kvs:=B) (ep:=ep) hh hv hm (by rw[c,Υ];lia) λl C as U y kg=>?_;have I1:Inv X pins σ H {s with heap:=l,toks:=C}:=zaG (g':=s.gens) (t':=C) (d':=s.drawn) (ch:=[]) I (λb v=>by cases v) (λb v=>by cases v) (λb o _ e=>U b o e) I.bare;have G:∀(j:Nat)(a:Addr),as[j]?=Φ a->∃(p:Int×Int) (t u:Tok),rows[j]?=Φ p/\l.get? a=Φ {cls:=.type "tuple",data:=.seq #[.int p.1 t,.int p.2 u]}:=λj a ha=>by let⟨key,k,x,e1,e2,e3⟩:=kg.pairs j a ha;let⟨p,t,p1,p2,p3⟩:=T j k x e1;subst p2 p3;rw[zjy]at e2;rcases zay e2 with⟨i,u,z1,z2⟩|⟨x',u,z1,z2⟩;cases z1;subst z2;exact⟨p,u,t,p1,e3⟩;cases z1
 let⟨H1,I2,x1,out1,g⟩:=zeK (s:={s with heap:=l,toks:=C}) as rows I1 (by rw[y,c]) kg.rise (λa ha=>⟨Own.fresh I (le_of_lt (kg.above a ha)),I.hok.fresh (le_of_lt (kg.above a ha))⟩) G;have n:as.length=rows.length:=by rw[y,c]
 refine Θ (wpAny_newList ?_ (by rw[length_map,n,Υ];lia));have I3:Inv X pins σ H1 {s with heap:=l.push (seqObj "list" (as.map Ξ.ref).toArray 0),toks:=C}:=zaG (s:={s with heap:=l,toks:=C}) (g':=s.gens) (t':=C) (d':=s.drawn) (ch:=[]) I2 (λb v=>by cases v) (λb v=>by cases v) (λb o _ e=>Λ _ e) I.bare;have lD:zf9 {s with heap:=l.push (seqObj "list" (as.map Ξ.ref).toArray 0),toks:=C} l.objs.size (as.map Ξ.ref) 0:=Ζ _ rfl;have oD:Own X pins l.objs.size:=Own.fresh I2 (le_refl _);have dN:H1 l.objs.size=Ψ:=I2.hok.fresh (le_refl _);have dN0:H l.objs.size=Ψ:=I1.hok.fresh (le_refl _);refine Θ (ϝ (wpAny_call_entry_kw slot_list_sort ⟨_,lD,rfl⟩ entry_list_sort ?_ (ksk_l1 _ _)));refine zrX (D:=l.objs.size) (as:=as) (rows:=rows) I3 (zse hr (λH s J=>J.env0.in1.in1) (L.up x1.kp) hs v ck (x1.kp.tab tb)) n h64 ?_ oD dN lD g λp s' pl ke=>⟨_,rfl,?_⟩;have hn:(B.map (·.1)).Nodup:=O;have e:(B.map (·.1))=(rows.map (·.1)).map Sum.inl:=by
  apply List.ext_getElem;simp[c];intro i g1 g2;have gi:i<B.length:=by simpa using g1
  let⟨p,t,p1,p2,p3⟩:=T i B[i].1 B[i].2 (by rw[Ι gi]);have gr:i<rows.length:=by lia
  rw[Ι gr]at p1;cases p1;simpa using p2
 rw[e]at hn;rw[List.nodup_iff_pairwise_ne,pairwise_map,pairwise_map]at hn;rw[List.nodup_iff_pairwise_ne];exact hn.imp λh z=>h (by rw[z]);refine Ω ⟨_,rfl,q _ s' ?_⟩;let⟨H2,e,J,x2,M,Y⟩:=ke.ex;have eo:(p.map λi=>(as.map Ξ.ref).getD i Ξ.none)=(p.map λi=>as.getD i 0).map Ξ.ref:=by
  rw[map_map];refine Τ λi hi=>?_;have:=pl.lt' i hi;have gi:i<as.length:=by lia
  simp[gi]
 rw[eo]at Y;have plen:p.length=rows.length:=by rw[pl.perm.length_eq];simp
 have tup2:∀(j:Nat)(t:Addr),(p.map λi=>as.getD i 0)[j]?=Φ t->∃q:Int×Int,(zbi rows)[j]?=Φ q/\H2 t=Φ (.tup [.int q.1,.int q.2]):=λj t N=>by
  rw[getElem?_map]at N;cases ej:p[j]? with
  |none=>rw[ej]at N;exact nS N
  |some i=>rw[ej]at N;cases N;have hi:=pl.lt' i (mem_of_getElem? ej);let⟨w,w1,w2⟩:=g i (as.getD i 0) (getD_mem 0 (by lia));refine⟨w,?_,x2.kp.tups _ _ w2⟩;rw[<-pl.tally,getElem?_map,ej];show Φ (rows.getD i (0,0))=Φ w;rw[ϋ,w1];rfl
 have dne:∀t o,H2 t=Φ o->t≠l.objs.size:=λt o h=>zai h M;refine⟨upd H2 l.objs.size (.lst ((p.map λi=>as.getD i 0).map V.ref)),p.map λi=>as.getD i 0,zbH J oD M ⟨by simp[plen,Υ];lia,_,e,?_,Y⟩,(x1.trans x2).trans (zfX M),dN0,zaf,by simp[plen],λj t N=>?_⟩;generalize(p.map λi=>as.getD i 0)=ts;induction ts with|nil=>exact .nil|cons t ts ih=>exact .cons rfl ih
 let⟨w,w1,w2⟩:=tup2 j t N;exact⟨w,w1,by rw[zad (dne t _ w2)];exact w2⟩
end
structure M0(X:Cx)(o:Expr)(m:Str)(apos cpos:Pos):Prop where
 base:attributeBase o m X.env (eval o X.env)=eval o X.env
 few:((backTo cpos (starEach [] X.env)).all (λx=>!x.1)&&(backToKw cpos (keywordEach [] X.env)).all (λx=>x.1.isSome)&&decide (([]:List Expr).length+([]:List Keyword).length+(if([]:List Keyword).isEmpty then 0 else 1)<30))=Γ
 line:(apos.endLine==cpos.line)=Γ
noncomputable abbrev zdH(d:Addr):Obj:={cls:=.type "dict_items",data:=.fields #[.ref d]}
abbrev zkc(c:TE):TE:=λe H Q=>c e H λx b=>∃d a,x=.ref d/\b d=Φ (.dK (zbC a))/\∀v,b v=Ψ->Q (.ref v) (upd b v (.frz (zdH d) (.own 0)))
def znp(p:PE X o q)(m:M0 X o "items" apos cpos):PE X (.Call (.Attribute o "items" apos) [] [] cpos) (zkc q):=by intro a s i H Q I h;refine wpAny_Call_method m.base m.few m.line PySem.F.plainAttrs_dict PySem.F.slot_dict_items PySem.F.type_dict_items (thn (p a s i H _ I h) λu c z=>?_);let⟨x,j,f,r,d,k,t,l,v⟩:=z;subst t;obtain rfl:u=Ξ.ref d:=r;let⟨w,y,A⟩:=zlL f (.inl ⟨_,.inl l⟩);let⟨_,_,B,_,hD⟩:=f.hok d _ l;refine⟨w,y,?_⟩;refine Calls.callWith_builtin rfl (PyProof.Rows.evalArgs_none ?_);refine PySem.call_meetsIn PySem.F.slot_dict_items hD.typeIs PySem.F.entry_dict_items (PySem.F.args_dict_items_1 _) (meets_dict_items (zar X.prog X.w) d A) ⟨⟨B,hD⟩,?_⟩;have n:j c.heap.objs.size=Ψ:=f.hok.fresh (le_refl _);have C:Inv X a i j {c with heap:=c.heap.push (zdH d)}:=zaG (g':=c.gens) (t':=c.toks) (d':=c.drawn) (ch:=[]) f (λb g=>by cases g) (λb g=>by cases g) (λb o _ e=>Λ _ e) f.bare;have E:=zbH (o:=.frz (zdH d) (.own 0)) C (Own.fresh f (le_refl _)) n ⟨Ζ _ rfl,_,Ζ _ rfl⟩;exact⟨.ref c.heap.objs.size,_,E,rfl,v _ n⟩
abbrev zpg(Q:VK)(w:V)(b:Hp):Prop:=∃v d a,w=.ref v/\b v=Φ (.frz (zdH d) (.own 0))/\b d=Φ (.dK (zbC a))/\a.length<64/\TB b/\
 ∀(D:Addr)(c:Hp)(e:List Addr),Ext [] b [] c->b D=Ψ->c D=Φ (.lst (e.map V.ref))->e.length=a.length->
  (∀(j:Nat)(t:Addr),e[j]?=Φ t->∃r:Int×Int,(zbi a)[j]?=Φ r/\c t=Φ (.tup [.int r.1,.int r.2]))->Q (.ref D) c
abbrev zr0(a:TE):TE:=λb H Q=>zkc a b H (zpg Q)
def zka(n:Inv X g x b p)(s:Room 2 X.A.in1.in1)(hs:FnScope ["row"] ["row"] scope)(y:∀(A B ct u:Ξ),bindArgs (kla_fn "<lambda>" q a body scope [] A B ct) ⟨[u],[]⟩=pure [(("row":Str),u)])(C:chkE noTab zeH ["row"] scope body=Γ)(L:LamAt b f "<lambda>" q a body scope)(E:TB c)(h:Ext [] c [] b)(G:c v=Φ (.frz (zdH d) (.own 0)))(hd:c d=Φ (.dK (zbC rows)))(i:rows.length<64)(I:∀(D:Addr)(b:Hp)(ts:List Addr),Ext [] c [] b->c D=Ψ->b D=Φ (.lst (ts.map V.ref))->ts.length=rows.length->(∀(j:Nat)(t:Addr),ts[j]?=Φ t->∃r:Int×Int,(zbi rows)[j]?=Φ r/\b t=Φ (.tup [.int r.1,.int r.2]))->Q (.ref D) b):
  wpAny (model X.prog X.w) X.A (call (.builtin "sorted") [.ref v] [(Str.ofString "key",.ref f)]) (EP X g x Q) X.xe p:=by
 have k:=h.keep (by simp) G (by simp);have l:=h.keep (by simp) hd (by simp);have J:p.heap.IsItemsView v d:=⟨_,(n.hok v _ k).1,rfl,rfl⟩;refine zkf n s.hd s L hs y C (h.kp.tab E) l J i λD U m=>?_;let⟨w,ts,M,N,O,dl,m,T⟩:=m.ex;refine⟨.ref D,w,M,rfl,I D w ts (h.trans N) ?_ dl m T⟩;cases e:c D with|none=>rfl| some o=>exfalso;have:=(h.rest D o (by simp) e).1;rw[O]at this;rcases this with z|⟨_,_,z⟩<;>exact nS z
section
variable{X:Cx}{o:Expr}{p apos cpos kpos lpos pos:Pos}{td:TE}{c P:Addr}{params:Arguments}{body:Expr}{scope:Scope}
def znl(t:PE X o td)(m:M0 X o "items" apos cpos)(x:Gl X "sorted")(y:X.mg "sorted"=Ψ)(A:Room 2 X.A.in1.in1)(mk:Maker X c P)(b:defaultsOf params X.env=([],[]))(g:closureFor scope X.env=pure [])(hs:FnScope ["row"] ["row"] scope)
  (B:∀(C E ct u:Ξ),bindArgs (kla_fn "<lambda>" (X.env.qual ++ "<lambda>") params body scope [] C E ct) ⟨[u],[]⟩=pure [(("row":Str),u)]) (G:chkE noTab zeH ["row"] scope body=Γ) :
  PE X (.Call (.Name "sorted" p) [.Call (.Attribute o "items" apos) [] [] cpos] [⟨Φ "key",.Lambda params body scope lpos,kpos⟩] pos) (zr0 td):=by
 intro a s k H Q I h;refine Ϙ (zdl I x y (by rfl:bootBuiltins "sorted"=Φ (.builtin "sorted")) ?_ (by decide) (by decide));have J:PA X [.Call (.Attribute o "items" apos) [] [] cpos] (zex (zkc td) tNil):=zby (znp t m) zeP;have M:PK X [⟨Φ "key",.Lambda params body scope lpos,kpos⟩] (zex (tLam (X.env.qual ++ "<lambda>") params body scope) tNil):=zkX (zoK mk b g) zoG;refine PyProof.Rows.callWith_builtin_kwB rfl rfl (PyProof.Rows.evalArgs_kw2 rfl (thn (J pos a s k H (oneK (zpg Q)) I h) λus N z=>?_));let⟨vs,l,O,T,U⟩:=z;let⟨w,rfl,v,d,n,Y,hv,hd,i,q,q1⟩:=zdC U;subst Y;let⟨u,rfl,ru⟩:=Vals.one T;obtain rfl:u=Ξ.ref v:=ru;refine thn (M pos a N k l (oneK λr e=>∃f,r=.ref f/\LamAt e f "<lambda>" (X.env.qual ++ "<lambda>") params body scope/\Ext [] l [] e) O ⟨q,λf e L S=>⟨f,rfl,L,S⟩⟩) λws s2 z=>?_;let⟨zs,e,I2,r2,k2⟩:=z;let⟨r,rfl,f,ef,L,st⟩:=zdC k2;subst ef;let⟨u2,rfl,j⟩:=Vals.one r2;obtain rfl:u2=Ξ.ref f:=j;exact zka I2 A hs B G L q st hv hd i q1
end
def zqj[DecidableEq a]{x:a×V}{r:List (a×V)}{k:a}(h:x.1≠k):putK (x::r) k v=x::putK r k v:=by unfold putK;have:decide (x.1=k)=Δ:=decide_eq_false h;simp![any_cons,this,Bool.false_or];split;rw[Ν,if_neg h];rfl
def ziw:∀(rows:List (Int×Int))(w:Int),(rows.map (·.1)).Nodup->∃c:Int,(valV (zbC rows) (.inl w)).getD (.int 0)=.int c/\putK (zbC rows) (.inl w) (.int (c+1))=zbC (bump rows w)
 | [],w,_=>⟨0,rfl,rfl⟩| (k,c)::r,w,h=>by
  simp![Ν,nodup_cons]at h;by_cases e:k=w;subst e;refine⟨c,by simp[zbC,valV],?_⟩;have j:(zbC r).map (λa=>if a.1=(Sum.inl k:Key) then(a.1,V.int (c+1)) else a)=zbC r:=by rw[Τ (g:=id),List.map_id];intro a b;unfold zbC at b;let⟨q,l,rfl⟩:=mem_map.mp b;have:q.1≠k:=λz=>h.1 (z▸mem_map.mpr ⟨q,l,rfl⟩);simp[this]
  have f:zbC ((k,c)::r)=(.inl k,.int c)::zbC r:=rfl;unfold bump;rw[if_pos rfl,f];unfold putK;have:(((Sum.inl k:Key),V.int c)::zbC r).any (λa=>decide (a.1=Sum.inl k))=Γ:=by simp
  rw[if_pos this,Ν,j,if_pos rfl];rfl;let⟨d,m,n⟩:=ziw r w h.2;have i:(Sum.inl k:Key)≠Sum.inl w:=λz=>e (Sum.inl.inj z);have f:zbC ((k,c)::r)=(.inl k,.int c)::zbC r:=rfl;refine⟨d,?_,?_⟩;rw[f,<-m];unfold valV;rw[List.find?_cons_of_neg (by simpa using e)];rw[f,zqj i,n];have o:bump ((k,c)::r) w=(k,c)::bump r w:=by rw[bump,if_neg e]
  rw[o];rfl
section
variable{X:Cx}{p1 p2 p3 p4 p5 p6 p7 p8 p9 p10 p11 p12 p13 p14 p15 p16 p17 p18 p19 p20 p21 p22 p23 p24 p25 p26 p27 p28 p29:Pos}{k7 k15 k17:Nat}{params:Arguments}{body:Expr}{scope:Scope}
abbrev zol(p1 p2 p3 p4 p5 p6 p7 p8 p9 p10 p11 p12 p13 p14 p15 p16 p17 p18 p19 p20 p21 p22 p23 p24 p25 p26 p27 p28 p29:Pos)(params:Arguments)(body:Expr)(scope:Scope):List Stmt:=
 [.Assign [.Name "counts" p1] (.Dict [] [] p2) p3,
  .For (.Name "word" p4) (.Name "words" p5) [.If (.Compare (.Name "word" p6) [.IsNot] [.Constant .none 0 p7] p8)
   [.Assign [.Subscript (.Name "counts" p9) (.Name "word" p10) p11] (.BinOp (.Call (.Attribute (.Name "counts" p12) "get" p13) [.Name "word" p14,.Constant (.int 0) 0 p15] [] p16) .Add (.Constant (.int 1) 0 p17) p18) p19] [] p20] [] p21,
  .Return (Φ (.Call (.Name "sorted" p22) [.Call (.Attribute (.Name "counts" p23) "items" p24) [] [] p25] [⟨Φ "key",.Lambda params body scope p26,p27⟩] p28)) p29]
abbrev zpp(K:Frag):TS:=tIfS (zpo (tOp (λx y H Q=>y=.non/\Q (.bl (!decide (x=.non))) H) (tVar 2) (tC .non))) (zsE (tVar 1) (tVar 2) (tOp (rI0 λi j=>.int (i+j)) (zom (tVar 1) (tVar 2) (tC (.int 0))) (tC (.int 1)))) zr2
def znd(a:X.N=[("words":Str),"counts","word"])(j:X.env.scope.names.lookup ("words":Str)=Φ .local)(b:X.env.scope.names.lookup ("counts":Str)=Φ .local)(c:X.env.scope.names.lookup ("word":Str)=Φ .local)(k:X.calm=Γ)(l:X.xe=λ_ _=>False)(e:X.A.units+1<cLine)(m:M2 X (.Name "counts" p12) "get" p13 (.Name "word" p14) (.Constant (.int 0) 0 p15) p16)(hs:swapsWith (.BinOp (.Call (.Attribute (.Name "counts" p12) "get" p13) [.Name "word" p14,.Constant (.int 0) 0 p15] [] p16) .Add (.Constant (.int 1) 0 p17) p18) (Φ (.Subscript (.Name "counts" p9) (.Name "word" p10) p11)) p19.line X.env=pure Δ)(n:swapsWith (.Dict [] [] p2) (Φ (.Name "counts" p1)) p3.line X.env=pure Δ)(o:PE X (.Call (.Name "sorted" p22) [.Call (.Attribute (.Name "counts" p23) "items" p24) [] [] p25] [⟨Φ "key",.Lambda params body scope p26,p27⟩] p28) q):
  PSs X (zol p1 p2 p3 p4 p5 p6 p7 p8 p9 p10 p11 p12 p13 p14 p15 p16 p17 p18 p19 p20 p21 p22 p23 p24 p25 p26 p27 p28 p29 params body scope)
   (tSeq (tAsg zkd (zfU 1)) (tSeq (tFor (zq4 X.K (tVar 0)) (zfU 2) (zpp X.K)) (tRet q))):=by
 have r:X.N[0]?=Φ ("words":Str):=by rw[a];rfl
 have f:X.N[1]?=Φ ("counts":Str):=by rw[a];rfl
 have g:X.N[2]?=Φ ("word":Str):=by rw[a];rfl
 have h:X.N.Nodup:=by rw[a];decide
 have s:∀{p:Pos},PE X (.Name "words" p) (tVar 0):=zbW r (.inl j);have i:∀{p:Pos},PE X (.Name "counts" p) (tVar 1):=zbW f (.inl b);have d:∀{p:Pos},PE X (.Name "word" p) (tVar 2):=zbW g (.inl c);have t:PassesOwn (model X.prog X.w) X.A X.env X.xe:=by rw[l];exact PassesOwn.never
 refine zaP (zkS h f (.inl b) ziz n (.inr b)) (zaP (zoF t k (zqs s) (zhF h g (.inl c) (.inr c)) (zfx (zsR (zkQ zqC d zoJ (zoO _)) (zfx (zqo e i d (zsX zoN (ziA e i d zgy m) zgy) hs)) zkR))) (zfx (zkT o)))
def zfh{os:List (Option Int)}(h:os[i]?=Φ o):os.take (i+1)=os.take i++[o]:=by rw[List.take_add_one,h];rfl
def zh2(kvs)(os)(o):zah kvs (os++[o])=match o with|some x=>bump (zah kvs os) x|none=>zah kvs os:=by unfold zah;rw[List.foldl_append];cases o<;>rfl
def zkw{K}{os}(hD:l.rt=Q)(j:H a=Φ (.lst (os.map wV)))(s:os.length<=sizeLine)(fin:∀(p:Addr)(b:L2.St),H p=Ψ->b[1]?=Φ (Φ (.ref p))->m b (upd H p (.dK (zbC (zah [] os)))) Q):
  (tSeq (tAsg zkd (zfU 1)) (tSeq (tFor (zq4 K (tVar 0)) (zfU 2) (zpp K)) (tRet m))) l (start ["words","counts","word"] [.ref a]) H:=by
 intro p n;have d:a≠p:=zai j n;refine⟨.ref a,rfl,a,rfl,⟨_,SqL.of ((zad d).trans j)⟩,?_⟩;refine znW (xs:=os.map wV) (λi b H'=>(∃z,b=[Φ (.ref a),Φ (.ref p),z])/\H'=upd H p (.dK (zbC (zah [] (os.take i))))) ⟨⟨Ψ,rfl⟩,rfl⟩ (λi b H' _ h=>?_) (λi x b H' f h=>?_) λb H' h=>?_;rw[h.2];exact SqL.of ((zad d).trans j);let⟨⟨z,rfl⟩,rfl⟩:=h;rw[getElem?_map]at f;cases e:os[i]? with
 |none=>rw[e]at f;exact nS f
 |some o=>
  rw[e]at f;cases f;have t:i<os.length:=(Α.mp e).1;show zpp K _ [Φ (.ref a),Φ (.ref p),Φ (wV o)] _;refine⟨wV o,rfl,rfl,_,rfl,?_⟩;rw[zfh e,zh2];cases o with
  |none=>exact⟨⟨_,rfl⟩,rfl⟩| some w=>
   let⟨c,q,r⟩:=ziw (zah [] (os.take i)) w (zaR _ List.nodup_nil);have g:(zbC (zah [] (os.take i))).length<sizeLine:=by have:=ze0 (os.take i);rw[length_take]at this;unfold zbC;rw[length_map];lia
   refine⟨.ref p,rfl,p,rfl,.inl ⟨_,.inl zaf⟩,.int w,rfl,_,DGet.k (k:=.inl w) zaf,c,1,q,rfl,.ref p,rfl,.int w,rfl,p,_,rfl,DPut.k (k:=.inl w) zaf g,⟨⟨_,rfl⟩,?_⟩⟩;rw[zpl,r]
 let⟨⟨z,rfl⟩,rfl⟩:=h;rw[length_map,List.take_length];show m _ _ l.rt;rw[hD];exact fin p _ n rfl
def zjc{K}{os}{ts:List Addr}(n:RH K ι H S)(u:H p=Ψ)(y:upd H p f v=Ψ)(x:Ext [] (upd (upd H p f) v m) [] g)(hD:upd (upd H p f) v m b=Ψ)(B:g b=Φ (.lst (ts.map V.ref)))(C:ts.length=(zah [] os).length)(E:∀(j:Nat)(t:Addr),ts[j]?=Φ t->∃r:Int×Int,(zbi (zah [] os))[j]?=Φ r/\g t=Φ (.tup [.int r.1,.int r.2])):
  Ext ι H (ι++[b]) g/\RH K (ι++[b]) g (S.push (.lst (talD os))):=by
 have G:Kp H (upd (upd H p f) v m):=(Kp.new u f).trans (Kp.new y m);have q:∀a o,H a=Φ o->upd (upd H p f) v m a=Φ o:=λa o e=>by have c:upd H p f a=Φ o:=(zad (zai e u)).trans e;exact(zad (zai c y)).trans c
 have k:H b=Ψ:=by cases e:H b with|none=>rfl|some o=>rw[q _ _ e]at hD;cases hD
 have s:b∉ι:=n.fresh k;have A:Ext ι H (ι++[b]) g:=⟨ϙ _ _,G.trans x.kp,λa o h e=>⟨(x.rest a o (by simp) (q a o e)).1,λz=>by rcases mem_append.mp z with z|z;exact h z;simp at z;exact zai e k z⟩⟩;refine⟨A,n.add A (λa I=>?_) s ⟨_,B,RVs.ofGet ?_ λi d w c l=>?_⟩⟩;let⟨o,e,_,_,J⟩:=n.live I;rw[e];exact x.keep (by simp) (q a o e) J;unfold talD;rw[length_map,length_map,C];unfold zbi;rw[List.length_mergeSort];rw[getElem?_map]at l;unfold talD at c;rw[getElem?_map]at c;cases z:ts[i]? with
 |none=>rw[z]at l;exact nS l
 |some t=>rw[z]at l;cases l;let⟨r,L,M⟩:=E i t z;rw[L]at c;cases c;exact⟨t,_,rfl,M,_,_,rfl,rfl,_,_,rfl,rfl,rfl⟩
end
def zfy(h:W (prm S .tally ds) Q):∃l a os,ds=[.ref l]/\S.get l=Φ (.lst a)/\zbg a=Φ os/\(zah [] os).length<64/\os.length<=16777216/\Q (.ref S.len) (S.push (.lst (talD os))):=by unfold prm at h;split at h;rename_i l _;split at h;rename_i a e;split at h;rename_i os b;split at h;rename_i c;exact⟨l,a,os,rfl,e,b,c.1,c.2,h⟩;exact h.elim;exact h.elim;exact h.elim;rename_i e;cases e;exact h.elim
structure TallySt(st:Stmt):Prop where
 ex:∃(p1 p2 p3 p4 p5 p6 p7 p8 p9 p10 p11 p12 p13 p14 p15 p16 p17 p18 p19 p20 p21 p22 p23 p24 p25 p26 p27 p28 p29:Pos) (params:Arguments) (body:Expr) (scope:Scope),zaj st=zol p1 p2 p3 p4 p5 p6 p7 p8 p9 p10 p11 p12 p13 p14 p15 p16 p17 p18 p19 p20 p21 p22 p23 p24 p25 p26 p27 p28 p29 params body scope/\
  (p13.endLine==p16.line)=Γ/\(p24.endLine==p25.line)=Γ/\(∀env,defaultsOf params env=([],[]))/\(∀env,closureFor scope env=pure [])/\FnScope ["row"] ["row"] scope/\chkE noTab zeH ["row"] scope body=Γ/\
  ∀(q:Str)(pm cd ct u:Ξ),bindArgs (kla_fn "<lambda>" q params body scope [] pm cd ct) ⟨[u],[]⟩=pure [(("row":Str),u)]
 sc:FnScope ["words","counts","word"] ["words"] (zaa st)
 h0:(zaa st).names.lookup ("words":Str)=Φ .local
 h1:(zaa st).names.lookup ("counts":Str)=Φ .local
 h2:(zaa st).names.lookup ("word":Str)=Φ .local
 hg:(zaa st).names.lookup ("sorted":Str)=Φ .globalImplicit
def zmB{K}{st}{dV kV j pm ct}(lk:K.lookup f=Φ ⟨oc,od,.func (fnOf x d (zaq st) (zaj st) (zaa st) dV kV j pm an (.ref c) ct),osl⟩)(y:codeIn K (.ref c) d=Γ)(hC:codeHdIn K c z=Γ)(T:TallySt st)(bm:BM g base)(B:(z,d ++ ".<locals>." ++ "<lambda>")∈Mks.ts)(one:∀p∈Mks.ts,p.1=z->p.2=d ++ ".<locals>." ++ "<lambda>")(hm:g "sorted"=Ψ)(hP:Pg[fi]?=Φ F)(hq:F.prim=Φ .tally)(hp:F.np=1)(hn:3<=n):
  FnOk P w K g base CX0 (n+2) f (fnOf x d (zaq st) (zaj st) (zaa st) dV kV j pm an (.ref c) ct) ["words"] (spF K (callF Pg (n+1)) fi):=by
 let⟨p1,p2,p3,p4,p5,p6,p7,p8,p9,p10,p11,p12,p13,p14,p15,p16,p17,p18,p19,p20,p21,C,G,I,J,L,M,N,p29,o,body,O,eb,l1,l2,k,U,hs,ck,hb⟩:=T.ex;refine zrb lk y T.sc (λvs H Q E h=>zbK (ps:=["words"]) hP hp h) λA e s H vs Q E hr h=>?_;let⟨ι,S0,ds,r,t,u⟩:=h;simp![callF,hP,hq,hn,if_true]at u;split at u;let⟨l,ws,os,rfl,hg,ho,Y,cl,q⟩:=zfy u;have room:Room 2 ((cxOf CX0 P w K g base ["words","counts","word"] d (zaa st) f (.ref c) A e s H E).nox).A.in1.in1:=((hr.mono (Nat.succ_le_succ hn)).in1).in1;have hu:((cxOf CX0 P w K g base ["words","counts","word"] d (zaa st) f (.ref c) A e s H E).nox).A.units+1<cLine:=by have:=hr.un;show(A.deeper _).units+1<_;lia
 have mk:Maker ((cxOf CX0 P w K g base ["words","counts","word"] d (zaa st) f (.ref c) A e s H E).nox) c z:=⟨bm,rfl,hC,B,one⟩;have hpe:=znl (X:=(cxOf CX0 P w K g base ["words","counts","word"] d (zaa st) f (.ref c) A e s H E).nox) (p:=C) (lpos:=L) (kpos:=M) (pos:=N) (zbW (pos:=G) (i:=1) (x:="counts") rfl (.inl T.h1)) (apos:=I) (cpos:=J) ⟨rfl,rfl,l2⟩ T.hg hm room mk (k _) (U _) hs (hb _) ck;have ht:=znd (X:=(cxOf CX0 P w K g base ["words","counts","word"] d (zaa st) f (.ref c) A e s H E).nox) (p1:=p1) (p2:=p2) (p3:=p3) (p4:=p4) (p5:=p5) (p6:=p6) (p7:=p7) (p8:=p8) (p9:=p9) (p10:=p10) (p11:=p11) (p12:=p12) (p13:=p13) (p14:=p14) (p15:=p15) (p16:=p16) (p17:=p17) (p18:=p18) (p19:=p19) (p20:=p20) (p21:=p21) (p29:=p29)
  rfl T.h0 T.h1 T.h2 rfl rfl hu ⟨rfl,rfl,l1,rfl⟩ rfl rfl hpe
 refine⟨_,by rw[eb];exact ht.nox,?_⟩;let⟨v,r0,rfl,rv,rn⟩:=r;cases(show r0=[] from rn);let⟨a,ia,rfl⟩:=rv;let⟨b,ib,xs,hb2,rr⟩:=t.obj l _ hg;rw[ia]at ib;cases ib;rw[zdF ho]at rr;cases zdA rr;refine zkw rfl hb2 (by rw[Υ];exact cl) λp σ m hσ=>?_;refine⟨.ref p,hσ,p,_,rfl,zaf,λv hv=>⟨v,p,_,rfl,zaf,?_,Y,?_,λD0 H2 ts x hD h2 hl ht=>?_⟩⟩;rw[zad (zai zaf hv)];exact zaf;exact(Kp.new hv _).tab ((Kp.new m _).tab t.tab);let⟨ex,rh⟩:=zjc t m hv x hD h2 hl ht;exact q _ _ (ι++[D0]) ex ⟨D0,t.last D0,rfl⟩ rh;exact u.elim
abbrev zm0:CS:=.setIx (.loc 1) (.sl (.loc 2) 3) (.ix (.loc 2) (.con (.int 3))) .nil
abbrev zgk:CS:=.asg 1 .dnew3 (.forS [2] (.val (.loc 0)) zm0 .nil)
abbrev dW(kvs:List (K3×Option Int)):List (K3×D):=kvs.map λa=>(a.1,wD a.2)
def ztT(kvs)(k)(o):zhC (dW kvs) k (wD o)=dW (putW kvs k o):=by
 unfold zhC putW dW;have e:(kvs.map λa=>(a.1,wD a.2)).map (·.1)=kvs.map (·.1):=by rw[map_map];rfl
 rw[e];split
 . rw[map_map,map_map];refine Τ λx _=>?_;show(if x.1=k then(x.1,wD o) else(x.1,wD x.2))=((if x.1=k then(x.1,o) else x).1,wD (if x.1=k then(x.1,o) else x).2);split<;>rfl
 simp
def zm8(kvs)(k)(o):(putW kvs k o).length<=kvs.length+1:=by unfold putW;split<;>simp
def zgj(l):∀(ls kvs:List (K3×Option Int)),zaz kvs (ls++[l])=putW (zaz kvs ls) l.1 l.2
 | [],kvs=>rfl|m::ls,kvs=>by rw[List.cons_append,zaz,zaz,zgj l ls]
def zio:∀(ls kvs:List (K3×Option Int)),(zaz kvs ls).length<=kvs.length+ls.length
 | [],kvs=>le_refl _| m::ls,kvs=>by rw[zaz];have:=zio ls (putW kvs m.1 m.2);have:=zm8 kvs m.1 m.2;simp;lia
def znD(h:lie4 d=Φ l):∃ds w,d=.tup [.int l.1.1,.tup ds,.int l.1.2.2,w]/\zaD ds=Φ l.1.2.1/\w=wD l.2:=by
 cases d with
 |tup x=>
  rcases x with _|⟨a,_|⟨c,_|⟨b,_|⟨w,_|⟨_,_⟩⟩⟩⟩⟩
  all_goals first|exact nS h|skip
  all_goals(cases a<;>first|exact nS h|skip)
  all_goals(cases c<;>first|exact nS h|skip)
  all_goals(cases b<;>first|exact nS h|skip)
  rename_i a ds b;replace h:((zaD ds).bind λp=>(zga w).map λo=>((a,p,b),o))=Φ l:=h;cases e:zaD ds with
  |none=>rw[e]at h;exact nS h
  |some p=>
   rw[e,bind_some]at h;cases c:zga w with
   |none=>rw[c]at h;exact nS h
   |some o=>rw[c]at h;cases h;refine⟨ds,w,rfl,e,?_⟩;cases w<;>first|(cases c;rfl)|exact nS c
 |_=>exact nS h
def zgC{b c:Type}{f}:∀{xs:List b}{ys:List c},xs.mapM f=Φ ys->ys.length=xs.length/\∀(i:Nat)(x:b),xs[i]?=Φ x->∃y,ys[i]?=Φ y/\f x=Φ y
 | [],ys,h=>by
  have h:ys=[]:=by simpa using h.symm
  subst h;exact⟨rfl,λi x e=>by simp at e⟩
 |a::xs,ys,h=>by let⟨y,r,d,g,rfl⟩:=zaC h;let⟨e1,e2⟩:=zgC g;refine⟨by simp[e1],λi x e=>?_⟩;cases i with|zero=>cases e;exact⟨y,rfl,d⟩|succ i=>exact e2 i x (by simpa using e)
def zm7(S:R.St)(lk)(o u)(h:lk.contains S.len=Δ):(St.mk S.frz (S.new++[o]) lk).put S.len u=Φ ⟨S.frz,S.new++[u],lk⟩:=by
 unfold St.put;have a:¬S.len<S.frz.length:=by unfold St.len;lia
 have b:S.len-S.frz.length=S.new.length:=by unfold St.len;lia
 simp![a,if_false,h,Ρ,b];congr 2;simp
def ziR(S:R.St)(lk)(o):(St.mk S.frz (S.new++[o]) lk).get S.len=Φ o:=by
 unfold St.get;have a:¬S.len<S.frz.length:=by unfold St.len;lia
 have b:S.len-S.frz.length=S.new.length:=by unfold St.len;lia
 simp![a,if_false,b];simp
def zd1{S:R.St}(e:S.get l=Φ u):(S.push o).get l=Φ u:=by have h:=get_lt e;unfold St.get St.push at *;by_cases c:l<S.frz.length;simp![c,if_true]at e⊢;exact e;simp![c,if_false]at e⊢;rw[getElem?_append_left (Α.mp e).1];exact e
def znZ{S:R.St}(b:lie4 d=Φ l)(c:lk.contains S.len=Δ)(e:kvs.length<16777216):
  exS cf zm0 [Φ x,Φ (.ref S.len),Φ d,Ψ] ⟨S.frz,S.new++[.d3 (dW kvs)],lk⟩=.ok (.nx [Φ x,Φ (.ref S.len),Φ d,Ψ]) ⟨S.frz,S.new++[.d3 (dW (putW kvs l.1 l.2))],lk⟩:=by
 let⟨a,w,rfl,f,rfl⟩:=znD b;unfold zm0;refine W.eq (wS_W _ ?_);conv=>whnf
 refine wOpt_of (show R.atI [D.int l.1.1,.tup a,.int l.1.2.2,wD l.2] 3=Φ (wD l.2) from rfl) ?_;conv=>whnf
 refine wNeed_of (ϗ 3) ?_;conv=>whnf
 show wOpt (zf0 _ _ (.tup [.int l.1.1,.tup a,.int l.1.2.2]) _) _;have g:zf0 ⟨S.frz,S.new++[.d3 (dW kvs)],lk⟩ (.ref S.len) (.tup [.int l.1.1,.tup a,.int l.1.2.2]) (wD l.2)=Φ ⟨S.frz,S.new++[.d3 (dW (putW kvs l.1 l.2))],lk⟩:=by
  unfold zf0;dsimp only;rw[ziR];dsimp only;have:key3 (.tup [.int l.1.1,.tup a,.int l.1.2.2])=Φ l.1:=by unfold key3;dsimp only;rw[f];rfl
  rw[this,bind_some,if_pos (by unfold dW;simpa using e),ztT];exact zm7 S lk _ _ c
 refine wOpt_of g ?_;exact⟨rfl,rfl⟩
def zrd(a:zbh S x=Φ ds)(s:ds.mapM lie4=Φ ls)(y:ls.length<=1000)(t:S.lk=[])(q:∀n,x=.ref n->n<S.len):
  W (exS cf zgk [Φ x,Ψ,Ψ,Ψ] S) λf T=>∃z,f=.nx [Φ x,Φ (.ref S.len),z,Ψ]/\T=S.push (.d3 (dW (zaz [] ls))):=by
 let⟨e1,e2⟩:=zgC s;have c:zbh (S.push (.d3 [])) x=Φ ds:=by
  unfold zbh at a⊢;cases x with
  |ref n=>
   have A:=q n rfl;dsimp only at a⊢;cases h:S.get n with
   |none=>rw[h]at a;exact nS a
   |some o=>rw[h]at a;rw[zd1 h];exact a
  |_=>exact a
 have j:(lkOf (S.push (.d3 [])) x).contains S.len=Δ:=by cases x with|ref n=>have:=q n rfl;simp[lkOf];lia|_=>rfl
 unfold zgk;show W (Out.bind (.ok _ _) _) _;rw[zas];show W (Out.bind _ _) _;have u:evL cf (.val (.loc 0)) ([Φ x,Φ (.ref S.len),Ψ,Ψ]:Ev) (S.push (.d3 []))=.ok (ds,lkOf (S.push (.d3 [])) x) (S.push (.d3 [])):=by show Out.bind (lift (S.push (.d3 [])) (zbh (S.push (.d3 [])) x)) _=_;rw[c];rfl
 rw[show(([Φ x,Ψ,Ψ,Ψ]:Ev).set 1 (Φ (.ref S.len)))=[Φ x,Φ (.ref S.len),Ψ,Ψ] from rfl,u,zas];unfold zbj;rw[zab,zab];have key:=zaE (g:=[2]) (b:=exS cf zm0) (λi k T=>(∃z,k=[Φ x,Φ (.ref S.len),z,Ψ])/\T=⟨S.frz,S.new++[.d3 (dW (zaz [] (ls.take i)))],lkOf (S.push (.d3 [])) x++S.lk⟩) (λ_ _=>False) ds 0 [Φ x,Φ (.ref S.len),Ψ,Ψ] ⟨S.frz,S.new++[.d3 []],lkOf (S.push (.d3 [])) x++S.lk⟩ ⟨⟨Ψ,rfl⟩,rfl⟩ ?_;refine key.mono ?_;rintro f T r;cases f with|rt d=>exact r.elim| nx k=>let⟨⟨z,rfl⟩,rfl⟩:=r;rw[W_ok];refine⟨z,rfl,?_⟩;rw[zero_add,<-e1,List.take_length];rfl
 rintro i d k T v ⟨⟨z,rfl⟩,rfl⟩;rw[zero_add]at *;let⟨l,m,p⟩:=e2 i d v;refine⟨[Φ x,Φ (.ref S.len),Φ d,Ψ],rfl,?_⟩;have e:=zio (ls.take i) [];have w:(ls.take i).length<=1000:=by rw[length_take];lia
 rw[znZ p (by rw[t,Ϥ];exact j) (by simp at e;lia)];refine⟨⟨_,rfl⟩,?_⟩;have:ls.take (i+1)=ls.take i++[l]:=by rw[List.take_succ,m];rfl
 rw[this,zgj]
def zgW(l2)(env):∀l1:List Stmt,execs (l1++l2) env=(execs l1 env>>=λf=>match f with|.next=>execs l2 env|f=>pure f)
 | []=>by show execs l2 env=((pure Flow.next:Sem Flow)>>=_);rw[pure_bind]| s::l=>by rw[List.cons_append,execs_cons,execs_cons,bind_assoc];congr 1;funext f;cases f with|next=>exact zgW l2 env l|_=>rw[pure_bind]
def zdE(h:wpAny M A (execs l1 env) (λf s'=>match f with|.next=>wpAny M A (execs l2 env) Q E s'|f=>Q f s') E s):wpAny M A (execs (l1++l2) env) Q E s:=by
 rw[zgW];refine Θ (ύ h (λf s' a=>?_) λ_ _ x=>x);cases f<;>first|exact a|exact Ω a
section
variable{K:Frag}{ι ι':List Addr}{H H':Hp}{S T:R.St}
def RH.cutG(k:RH K ι H S)(x:Ext ι H ι' H')(p:RH K ι' H' T)(t:∀l o,S.get l=Φ o->T.get l=Φ o):RH K ι H' S:=by refine⟨k.len,k.nd,λl o e=>?_,p.tab⟩;let⟨a,q,i⟩:=k.obj l o e;let⟨b,r,j⟩:=p.obj l o (t l o e);rw[zbP x.pre q]at r;cases r;refine⟨a,q,?_⟩;cases o with| lst w=>let⟨y,_,d⟩:=i;let⟨f,g,h⟩:=j;exact⟨f,g,h.restrict x.pre d.flats⟩| dic m=>let⟨_,s,_,d⟩:=i;let⟨n,f,g,h⟩:=j;exact⟨n,f,g,h.restrict x.pre d.flats⟩| ins c z=>let⟨_,_,s,_,_,d⟩:=i;let⟨C,u,f,v,g,h⟩:=j;exact⟨C,u,f,v,g,h.restrict x.pre d.flats⟩| d3 m=>let⟨_,s,_,d⟩:=i;let⟨n,f,g,h⟩:=j;exact⟨n,f,g,h.restrict x.pre d.flats⟩
def RH.offK(h:RH K ι H S)(k:Kp H H')(e:∀a∈ι,H' a=H a):RH K ι H' S:=⟨h.len,h.nd,λl o g=>let ⟨a,b,c⟩:=h.obj l o g;⟨a,b,c.up (Ϡ _) k (e a (mem_of_getElem? b))⟩,k.tab h.tab⟩
def zrO:∀{kvs:List (K3×Option Int)}{a:List (K3×Addr×V)},R3s K ι H (dW kvs) a->W3s H kvs a
 | [],_,r=>r| (k,o)::kvs,a,r=>by
  let⟨⟨_,c,v⟩,w,rfl,⟨rfl,b⟩,d,e⟩:=r;refine⟨c,w,?_,b,zrO e⟩;have:v=vW o:=by cases o<;>exact d
  rw[this]
end
def zmZ(f:Un A [] H c h i)(hok:HOk P w c i)(r:c g=Ψ)(s:h.objs.size<=g)(j:i.get? g=Φ m)(hd:c d=Φ (.ext k))(t:i.get? d=Φ p):
  Un A [] H (upd (upd c g (.frz m (.own 0))) d (.frz p (.ext k))) h i/\HOk P w (upd (upd c g (.frz m (.own 0))) d (.frz p (.ext k))) i/\
  ∀b o,c b=Φ o->b≠d->upd (upd c g (.frz m (.own 0))) d (.frz p (.ext k)) b=Φ o:=by
 have a:∀b o,c b=Φ o->b≠d->upd (upd c g (.frz m (.own 0))) d (.frz p (.ext k)) b=Φ o:=λb o e n=>by rw[zad n,zad (zai e r)];exact e
 refine⟨⟨f.keep,f.slot,λb o q n h=>?_,f.there,λb v q=>?_,λb o u q=>?_,λb B q=>?_⟩,λb o q=>?_,a⟩;have e:=f.free b o q n h;rw[zad (λz=>by rw[z,hd]at e;cases e),zad (ne_of_lt (lt_of_lt_of_le (Η q) s))];exact e;have e:=f.tups b v q;exact a b _ e λz=>by rw[z,hd]at e;cases e
 have e:=f.frzs b o u q;exact a b _ e λz=>by rw[z,hd]at e;cases e
 let⟨l,e⟩:=f.tbls b B q;exact⟨l,a b _ e λz=>by rw[z,hd]at e;cases e⟩;by_cases z:b=d;subst z;rw[zaf]at q;cases q;let⟨C,E,G⟩:=(show ObjOk P w c i b (.ext k) from hok b _ hd);exact⟨t,C,E,G⟩;rw[zad z]at q;by_cases y:b=g;subst y;rw[zaf]at q;cases q;exact⟨j,_,j⟩;rw[zad y]at q;exact(hok b o q).stay (λ_ _ _ q=>q) (λx q=>a x _ q λz=>by rw[z,hd]at q;cases q) λx v q=>a x _ q λz=>by rw[z,hd]at q;cases q
def zgw(h:W (prm S .road ds) Q):∃x a ls,ds=[x]/\zbh S x=Φ a/\a.mapM lie4=Φ ls/\ls.length<=1000/\S.lk=[]/\Q (.clo (zaz [] ls)) S:=by
 unfold prm at h;split at h;rename_i e;cases e;rename_i x _;cases e:zbh S x with|none=>rw[e]at h;exact h.elim| some a=>rw[e,bind_some]at h;cases e2:a.mapM lie4 with|none=>rw[e2]at h;exact h.elim| some ls=>rw[e2]at h;dsimp only at h;split at h;rename_i c;exact⟨x,a,ls,rfl,e,e2,c.1,c.2,h⟩;exact h.elim
 exact h.elim
noncomputable abbrev roadN:List Str:=["lies","last","lie","word_on_arrival"]
structure RoadSt(st:Stmt):Prop where
 ex:∃(s1 s2 ist:Stmt) (p8 p9:Pos),zaj st=[s1,s2,ist,.Return (Φ (.Name arrN p8)) p9]/\Mks.rs=Φ ist/\chkS noTab zgk roadN (zaa st) [s1,s2]=Γ
 sc:FnScope roadN ["lies"] (zaa st)
 hl:(zaa st).names.lookup ("last":Str)=Φ .cell
 hw:(zaa st).names.lookup arrN=Φ .local
def zp8{K}{st}{dV kV doc pm ct}(lk:K.lookup f=Φ ⟨oc,od,.func (fnOf x "road" (zaq st) (zaj st) (zaa st) dV kV doc pm an (.ref c) ct),osl⟩)(hcd:codeIn K (.ref c) "road"=Γ)(hC:codeHdIn K c Tb=Γ)(T:RoadSt st)(bm:BM mg base)(mem:(Tb,arrQ)∈Mks.ts)(one:∀p∈Mks.ts,p.1=Tb->p.2=arrQ)(hP:Pg[fi]?=Φ F)(hq:F.prim=Φ .road)(hp:F.np=1)(hn:3<=n):
  FnOk P w K mg base CX0 (n+2) f (fnOf x "road" (zaq st) (zaj st) (zaa st) dV kV doc pm an (.ref c) ct) ["lies"] (spF K (callF Pg (n+1)) fi):=by
 refine⟨λvs H Q E h=>zbK (ps:=["lies"]) hP hp h,λA g s H args us vs Q E hr e0 hb r hsp=>?_⟩;have hlen:vs.length=(["lies"]:List Str).length:=zbK (ps:=["lies"]) hP hp hsp;have KX:K.In s.heap:=e0.mod.kin.keeps λb o e=>(e0.bs b o e).1;have lim:s.heap.NoLimit:=e0.mod.nolimit.keeps λb o e=>(e0.bs b o e).1;have hkind:∀y∈(["lies"]:List Str).zip us,(zaa st).names.lookup y.1=Φ .local\/((zaa st).names.lookup y.1=Φ .cell/\((cellsFrom (s.heap.objs.size+1) (zaa st).names []).lookup y.1).isSome=Γ):=λ⟨n,v⟩ hy=>by rcases T.sc.par n (of_mem_zip hy).1 with q|q;exact .inl q;exact .inr ⟨q,cellsFrom_some _ _ _ (.inl q)⟩
 refine codeAny_call_function hr.depth (KX _ _ lk) rfl T.sc.co T.sc.gen rfl (PySem.W.codeRec_of KX hcd) (hb _ _ _ _ ?_);refine wpAny_newFunctionEnv_cells T.sc.kind hkind λenv he s1 xx=>?_;subst he;refine⟨lim.keeps xx.toInCall.keep,codeAny_func ?_⟩;have I:Inv (cxOf CX0 P w K mg base roadN "road" (zaa st) f (.ref c) A g s H E) [] (start roadN vs) H s1:=zeb T.sc hr.hd e0 hlen r xx;have hr':=hr.deeper (envOfC "road" (zaa st) s.heap.objs.size f (.ref c));generalize j:cxOf CX0 P w K mg base roadN "road" (zaa st) f (.ref c) A g s H E=X at I;have eA:X.A=A.deeper (envOfC "road" (zaa st) s.heap.objs.size f (.ref c)):=by rw[<-j];rfl
 have eE:X.env=envOfC "road" (zaa st) s.heap.objs.size f (.ref c):=by rw[<-j];rfl
 let⟨ι,S0,ds,rr,hh,hw⟩:=hsp;simp![callF,hP,hq,hn,if_true]at hw;split at hw;let⟨x0,dd,ls,rfl,h1,h2,h3,h4,q⟩:=zgw hw;let⟨v,r0,rfl,rv,rn⟩:=rr;cases(show r0=[] from rn);let⟨st1,st2,ist,p8,p9,eb,hrs,ck⟩:=T.ex;have T3:CloSt ist:=by have:=Mks.ro;rw[hrs]at this;exact this
 have G:Gd noTab noCF n roadN (zaa st) X.nox:=by rw[<-j];exact⟨rfl,T.sc.nd,λx e=>e,λx e=>e,λx e=>.inl e,λx e=>e,.inl λ_=>rfl,rfl,rfl,hr',ziC,λz=>absurd (show roadN=noTab.lam from z) (by decide)⟩
 have eK:X.K=K:=by rw[<-j];rfl
 have hx:∀m,x0=.ref m->m<S0.len:=λm e=>by subst e;let⟨a,ha,_⟩:=rv;rw[<-hh.len];exact(Α.mp ha).1
 have w1:=zaW zgk G ck [] s1 (start roadN [v]) H {nx:=λk H'=>∃z ι',RS K ι' H' [Φ x0,Φ (.ref S0.len),z,Ψ] k/\RH K ι' H' (S0.push (.d3 (dW (zaz [] ls))))/\Ext ι H ι' H',rt:=λ_ _=>False} (I.wish _) ?_
 . show wpAny (model P w) (A.deeper (envOfC "road" (zaa st) s.heap.objs.size f (.ref c))) (execs (zaj st) (envOfC "road" (zaa st) s.heap.objs.size f (.ref c))) _ _ s1;rw[eb,<-eA,<-eE];have eP:X.prog=P:=by rw[<-j];rfl
   have ew:X.w=w:=by rw[<-j];rfl
   refine zdE (l1:=[st1,st2]) (l2:=[ist,.Return (Φ (.Name arrN p8)) p9]) (ύ (by rw[<-eP,<-ew];exact w1) (λfl s2 hs=>?_) λ_ _ z=>False.elim z);cases fl with|ret u=>let⟨_,_,_,_,_,z⟩:=hs;exact False.elim z|brk=>let⟨_,_,_,z⟩:=hs;exact False.elim z|cont=>let⟨_,_,_,z⟩:=hs;exact False.elim z|next=>
   let⟨k,H',J',z,ι',rs,rh,x'⟩:=hs;have J:Inv X [] k H' s2:=J'.unwish;let⟨v1,e1,d,hd,rfl⟩:=rs.2 1 (.ref S0.len) rfl;let⟨d',hd',nd,ws,M,r3⟩:=rh.obj S0.len _ (ziR S0 S0.lk _);rw[hd]at hd';cases hd';have w3:=zrO r3;have hlast:X.env.kindOf ("last":Str)=Φ .cell:=by rw[eE];exact T.hl
   have cellAt:∀{σ2:L2.St}{H2:Hp}{s':Β},Inv X [] σ2 H2 s'->σ2[1]?=Φ (Φ (.ref d))->∃B Y,X.env.cells.lookup ("last":Str)=Φ B/\s'.heap.get? B=Φ Y/\Y.data=.cell (Φ (.ref d)):=λ{σ2 H2 s'} I2 e=>by let⟨m,_,hl⟩:=I2.loc;let⟨u,ru,lk⟩:=hl 1 "last" (.ref d) (by rw[<-j];rfl) e (by rw[<-j];exact .inr (.inl T.hl));cases(show u=Ξ.ref d from ru);rcases lk with⟨a,_⟩|⟨_,B,h1,Y,h2,h3⟩;rw[hlast]at a;cases a;exact⟨B,Y,h1,h2,h3⟩
   let⟨B,_,hcc,_,_⟩:=cellAt J e1;have hqn:qualnameIn X.env arrN arrN=arrQ:=by unfold qualnameIn;rw[eE,show(envOfC "road" (zaa st) s.heap.objs.size f (.ref c)).kindOf arrN=Φ .local from T.hw];rfl
   let⟨pos,et⟩:=T3.text;have eG:X.mg=mg:=by rw[<-j];rfl
   have eB:X.base=base:=by rw[<-j];rfl
   have tb:=rh.tab _ mem;refine wpAny_execs_cons ?_;rw[et];refine PySem.W.nestDef_K T3.d0 T3.k0 (T3.an _) ?_;rw[hqn,<-eP,<-ew];refine zn2 J (by rw[eG,eB];exact bm) (by rw[eE];rfl) (by rw[eK];exact hC) tb (T3.clo _ B hcc) λf' H3 s3 J3 D3 tb3 S3=>?_;refine zfk (i:=3) (x:=arrN) (v:=.ref f') J3 (by rw[<-j];exact T.sc.nd) (by rw[<-j];rfl) (by rw[eE];exact .inl T.hw) rfl (λs4 J4=>?_) (.inr (by rw[eE];exact T.hw));have l3:3<k.length:=by rw[J.len,<-j];show 3<roadN.length;decide
   have pv:=(zbW (X:=X.nox) (pos:=p8) (i:=3) (x:=arrN) (by rw[<-j];rfl) (show Vis X.env.scope arrN by rw[eE];exact .inl T.hw):PE X.nox (.Name arrN p8) (tVar 3)) [] s4 (k.set 3 (Φ (.ref f'))) H3 (λv H2=>v=.ref f'/\H2=H3) (J4.wish _) ⟨.ref f',getElem?_set_self l3,rfl,rfl⟩;refine wpAny_execs_cons (wpAny_Return_some (ύ pv (λu s5 hs=>?_) λe s' z=>?_));let⟨v',H5,J5',ru,rfl,rfl⟩:=hs;have J5:Inv X [] (k.set 3 (Φ (.ref f'))) H5 s5:=J5'.unwish;cases(show u=Ξ.ref f' from ru);show L2.CE g X.prog X.w H s Q (.ref f') s5;rw[eP,ew];let⟨cc2,Y,hcc2,hou,hoc⟩:=cellAt J5 (by rw[getElem?_set_ne (by decide)];exact e1);rw[hcc]at hcc2;cases hcc2;let⟨ps,O,_⟩:=id tb;let⟨ps3,hTb3,_⟩:=id tb3;have dTb:d≠Tb:=λz=>by rw[z,O]at M;cases M
   have hd3:H5 d=Φ (.ext (TriO d ws)):=S3.rest d _ dTb M;let⟨_,⟨U,hod⟩,_⟩:=(show ObjOk X.prog X.w H5 s5.heap d (.ext _) from J5.hok d _ hd3);have hcn:H5 B=Ψ:=J5.freeC _ _ hcc;have hcs:s.heap.objs.size<=B:=by have:=J5.ok.cab "last" B (by rw[<-j];rfl) hcc;rw[<-j]at this;exact this
   have un:Un (frs g) [] H H5 s.heap s5.heap:=by have:=J5.base;rw[<-j]at this;exact this
   have hok:HOk P w H5 s5.heap:=by have:=J5.hok;rw[eP,ew]at this;exact this
   have ccd:B≠d:=λz=>by rw[z,hd3]at hcn;cases hcn
   let⟨un6,hok6,L⟩:=zmZ un hok hcn hcs hou hd3 hod;have at_d:upd (upd H5 B (.frz Y (.own 0))) d (.frz U (.ext (TriO d ws))) d=Φ (.frz U (.ext (TriO d ws))):=zaf;have at_c:upd (upd H5 B (.frz Y (.own 0))) d (.frz U (.ext (TriO d ws))) B=Φ (.frz Y (.own 0)):=by rw[zad ccd];exact zaf
   generalize upd (upd H5 B (.frz Y (.own 0))) d (.frz U (.ext (TriO d ws)))=H6 at un6 hok6 L at_d at_c;have N:∀b o,H' b=Φ o->b≠Tb->b≠d->H6 b=Φ o:=λb o e n1 n2=>L b o (S3.rest b o n1 e) n2;have frz6:∀b o u,H' b=Φ (.frz o u)->H6 b=Φ (.frz o u):=λb o u e=>N b _ e (λz=>by rw[z,O]at e;cases e) λz=>by rw[z,M]at e;cases e
   have tup6:∀b xs,H' b=Φ (.tup xs)->H6 b=Φ (.tup xs):=λb xs e=>N b _ e (λz=>by rw[z,O]at e;cases e) λz=>by rw[z,M]at e;cases e
   have C:∀b o u,H5 b=Φ (.frz o u)->H6 b=Φ (.frz o u):=λb o u e=>L b _ e λz=>by rw[z,hd3]at e;cases e
   have hTb6:H6 Tb=Φ (.tbl ps3):=L Tb _ hTb3 (Ne.symm dTb);have tb6:TB H6:=λp hp=>by by_cases z:p.1=Tb;rw[one p hp z,z];exact tb3.up (hTb6.trans hTb3.symm) C;let⟨qs,hq,_⟩:=id (rh.tab p hp);exact(rh.tab p hp).up ((N p.1 _ hq z λy=>by rw[y,M]at hq;cases hq).trans hq.symm) frz6
   have dm:d∈ι':=mem_of_getElem? hd;have x6:Ext ι H ι H6:=by refine⟨Ϡ _,⟨un6.tups,un6.frzs,λ_=>tb6⟩,λa o ha e=>⟨?_,ha⟩⟩;let⟨e2,hm⟩:=x'.rest a o ha e;have nd:a≠d:=λz=>hm (z▸dm);by_cases z:a=Tb;refine .inr ⟨?_,ps3,z▸hTb6⟩;rcases e2 with e2|⟨t,_⟩;rw[z,O]at e2;cases e2;exact⟨ps,rfl⟩;exact t;rcases e2 with e2|⟨t,qs,e2⟩;exact .inl (N a o e2 z nd);exact .inr ⟨t,qs,N a _ e2 z nd⟩
   have dn:d∉ι:=zkU x'.pre rh.nd hd (le_of_eq hh.len);have rh6:RH K ι H6 S0:=(hh.cutG x' rh λl o e=>zd1 e).offK ⟨tup6,frz6,λ_=>tb6⟩ λa ha=>by let⟨o,ho,_,_,nt⟩:=(hh.cutG x' rh λl o e=>zd1 e).live ha;rw[ho];exact N a o ho (λz=>by rw[z,O]at ho;cases ho;exact nt _ rfl) λz=>dn (z▸ha)
   refine⟨.ref f',H6,J5.os.trans (by rw[<-j];rfl),J5.bare,un6,hok6,rfl,q _ H6 ι x6 ?_ rh6⟩;let⟨pm',ct',doc',c2,oc2,vs2,t2,g1,g2,g3,g4⟩:=D3;exact⟨f',rfl,B,d,Y,U,ws,⟨ist,pm',ct',doc',c2,oc2,vs2,t2,hrs,C _ _ _ g1,C _ _ _ g2,g3,g4⟩,at_c,hoc,at_d,w3.up tup6⟩;exact False.elim z
 show tS X.nox.K noCF zgk _ _ _;rw[show X.nox.K=K from eK];refine⟨[Φ x0,Ψ,Ψ,Ψ],ι,S0,_,⟨rfl,λi d e=>?_⟩,hh,zrd h1 h2 h3 h4 hx,?_⟩
 . match i,e with
   |0,e=>cases e;exact⟨v,rfl,rv⟩|1,e=>cases e
   |2,e=>cases e
   |3,e=>cases e
   |i+4,e=>simp at e
 rintro fl ι' H' S' x' hh' ⟨z,rfl,rfl⟩;exact λk hs=>⟨z,ι',hs,hh',x'⟩;exact hw.elim
omit [Mks] in
def zrq(a:scope.names=[(("turn":Str),.local),("path",.local),("to",.local),("word",.local),("last",.free)])(h:env.cells.lookup ("last":Str)=Φ c):closureFor scope env=pure [(("last":Str),c)]:=by unfold closureFor;rw[a];simp[cellOf,h]
end R
namespace R
abbrev oD:Option Int->D|some i=>.int i|none=>.non
def zfb:∀os:List (Option Int),zbg (os.map oD)=Φ os
 | []=>rfl| o::os=>by unfold zbg;rw[Ν,Ϛ,show(os.map oD).mapM zga=Φ os from zfb os];cases o<;>rfl
def zlX(n)(os):flats n (talD os)=Γ:=by rw[zaH];intro d a;let⟨r,_,rfl⟩:=mem_map.mp a;simp[rowD]
def zmt(a:P[f]?=Φ F)(b:F.prim=Φ .tally)(c:F.np=1)(h:S.get l=Φ (.lst (os.map oD)))(d:(zah [] os).length<64)(g:os.length<=16777216):app (callF P (n+4)) f [.ref l] S=.ok (.ref S.len) (S.push (.lst (talD os))):=by
 have e:callF P (n+4) f [.ref l] S.enter=.ok (.ref S.len) (S.enter.push (.lst (talD os))):=by
  have i:3<=n+3:=by lia
  simp![callF,a,b,c,Χ,Ϧ,zero_add,if_true,i];unfold prm;dsimp only;rw[zbe,h];dsimp only;rw[zfb];dsimp only;rw[if_pos ⟨d,g⟩,enter_len]
 unfold app;rw[e,zas];unfold zcG;have j:(S.enter.push (.lst (talD os))).get S.len=Φ (.lst (talD os)):=by have:=ziQ (S.frz++S.new) [.lst (talD os)] [];rw[zd7]at this;exact this
 rw[if_neg (by simp[flat])];dsimp only;rw[j];dsimp only;rw[if_pos (zlX _ _)]
def zmD(rows):(zbi rows).Perm rows:=List.mergeSort_perm rows zfm
def tal_mem:r∈zbi rows↔r∈rows:=(zmD rows).mem_iff
open PySem (PyData)
def zfJ{c d:Type}{f}:∀{xs:List c}{ys:List d},xs.mapM f=Φ ys->∀y∈ys,∃x∈xs,f x=Φ y
 | [],ys,h,y,a=>by simp at h;subst h;cases a
 |x::xs,ys,h,y,a=>by
  rw[Ϛ]at h;cases e:f x with
  |none=>rw[e]at h;exact nS h
  |some z=>
   rw[e]at h;cases b:xs.mapM f with
   |none=>rw[b]at h;exact nS h
   |some j=>rw[b]at h;injection h with h;subst h;rcases mem_cons.mp a with rfl|a;exact⟨x,by simp,e⟩;let⟨u,g,i⟩:=zfJ b y a;exact⟨u,by simp[g],i⟩
def zcJ:∀{xs:List PyData},(∀x∈xs,PyData.eqv x x=Γ)->PyData.eqvAll xs xs=Γ
 | [],_=>by simp[PyData.eqvAll]|x::xs,h=>by simp[PyData.eqvAll,h x (by simp),zcJ (xs:=xs) λy a=>h y (by simp[a])]
def zqB:∀{n:Nat}{d:D}{a:PyData},pd S n d=Φ a->PyData.eqv a a=Γ:=by
 intro n;induction n with
 |zero=>
  intro d a h;cases d<;>simp![pd]at h
  cases h;simp[PyData.eqv];cases h;simp[PyData.eqv];cases h;simp[PyData.eqv];exact nS h;exact nS h;exact nS h;exact nS h
 |succ n g=>
  intro d a h;cases d<;>simp![pd]at h
  cases h;simp[PyData.eqv];cases h;simp[PyData.eqv];cases h;simp[PyData.eqv];rename_i b;cases e:b.mapM (pd S n) with
  |none=>rw[e]at h;exact nS h
  |some i=>rw[e]at h;cases h;rw[PyData.eqv];exact zcJ λx c=>let ⟨d,_,f⟩:=zfJ e x c;g f
  split at h;rename_i b _;cases e:b.mapM (pd S n) with
  |none=>rw[e]at h;exact nS h
  |some i=>rw[e]at h;cases h;rw[PyData.eqv];exact zcJ λx c=>let ⟨d,_,f⟩:=zfJ e x c;g f
  exact nS h;exact nS h;exact nS h
def zo1(b:pd S 60 x=Φ a)(c:pd S 60 y=Φ a):eqD S x y=Φ Γ:=by unfold eqD;rw[b,c];exact congrArg Φ (zqB b)
def zfB(h:S.get l=Φ (.lst ds))(e:ds.mapM (pd S n)=Φ xs):pd S (n+1) (.ref l)=Φ (.list xs):=by simp![pd,h,e];rfl
def zh3(c:S.get a=Φ (.lst ds))(d:S.get b=Φ (.lst ds))(e:ds.mapM (pd S 59)=Φ xs):cmpO S .Eq (.ref a) (.ref b)=Φ Γ:=(zo1 (zfB c e) (zfB d e))
def zek(c:S.get a=Φ (.lst ds))(d:S.get b=Φ (.lst ds))(e:ds.mapM (pd S 59)=Φ xs):cmpO S .NotEq (.ref a) (.ref b)=Φ Δ:=by show(eqD S (.ref a) (.ref b)).map (!·)=_;rw[zo1 (zfB c e) (zfB d e)];rfl
abbrev oP:Option Int->PyData|some i=>.int i|none=>.none
def zs4(S)(n):∀os:List (Option Int),(os.map oD).mapM (pd S n)=Φ (os.map oP)
 | []=>rfl| o::os=>by rw[Ν,Ϛ,zs4 S n os];cases o<;>cases n<;>rfl
def zal(S:St)(o):(S.push o).get S.len=Φ o:=by
 have h:¬S.len<S.frz.length:=by unfold St.len;lia
 unfold St.get St.push;simp![h,if_false];unfold St.len;simp
def zae{S:St}(e:S.get l=Φ u):(S.push o).get l=Φ u:=by have h:=get_lt e;unfold St.len at h;unfold St.get at e⊢;unfold St.push;simp only;split;rename_i c;rw[if_pos c]at e;exact e;rename_i c;rw[if_neg c]at e;rw[getElem?_append_left (by omega)];exact e
def zfv{S:St}(o)(d:S.frz.length<=l)(b:S.lk.contains l=Δ):∃a,S.put l o=Φ a/\a.frz=S.frz/\a.lk=S.lk/\a.len=S.len/\(∀m,m≠l->a.get m=S.get m)/\(l<S.len->a.get l=Φ o):=by refine⟨{S with new:=S.new.set (l-S.frz.length) o},?_,rfl,rfl,by simp[St.len],λm e=>?_,λc=>?_⟩;unfold St.put;rw[if_neg (by lia),b];rfl;unfold St.get;simp only;split;rfl;rw[getElem?_set_ne (by lia)];unfold St.len at c;unfold St.get;simp![show ¬l<S.frz.length by lia,if_false];rw[getElem?_set_self (by lia)]
def zrg(S)(i j):eqD S (.int i) (.int j)=Φ (i==j):=by unfold eqD;have e:∀k,pd S 60 (.int k)=Φ (.int k):=λk=>rfl;rw[e,e];show Φ (PyData.eqv (.int i) (.int j))=_;rw[L2.eqv_int]
def ziO(S)(x):∀ks:List Int,inD S (.int x) (ks.map .int)=Φ (decide (x∈ks)):=by
 intro ks;have e:(ks.map D.int).mapM (λz=>eqD S z (.int x))=Φ (ks.map λk=>k==x):=by induction ks with|nil=>rfl|cons k ks a=>rw[Ν,Ϛ,zrg,a];rfl
 have f:∀ks:List Int,((ks.map λk=>k==x).any id)=decide (x∈ks):=by intro ks;induction ks with|nil=>rfl| cons k ks a=>rw[Ν,any_cons,a];by_cases c:k=x;subst c;simp;have d:¬x=k:=λz=>c z.symm;have b:(k==x)=Δ:=beq_eq_false_iff_ne.mpr c;simp![b,id,Bool.false_or,mem_cons,d,false_or]
 unfold inD;rw[e];exact congrArg Φ (f ks)
def zoY{ks:List Int}(h:S.get l=Φ (.lst (ks.map .int)))(x):cmpO S .In (.int x) (.ref l)=Φ (decide (x∈ks)):=by show((match S.get l with|some (.lst a)=>Φ a|_=>Ψ).bind λb=>inD S (.int x) b)=_;rw[h];exact ziO S x ks
def zd2{ks:List Int}(h:S.get l=Φ (.lst (ks.map .int)))(x):cmpO S .NotIn (.int x) (.ref l)=Φ (!decide (x∈ks)):=by show(cmpO S .In (.int x) (.ref l)).map (!·)=_;rw[zoY h];rfl
abbrev cntZ(os:List (Option Int)):Option Int->Int
 |some w=>(os.count (Φ w):Nat)|none=>0
def zh7{xs:List a}{k:Nat}{x:a}(h:xs[k]?=Φ x):R.atI xs (k:Int)=Φ x:=by
 have b:=(Α.mp h).1;have e:R.ixN xs.length (k:Int)=Φ k:=by simp[R.ixN,b]
 unfold R.atI;rw[e];exact h
def zoc:R.atI (x::xs) 0=Φ x:=by
 have:R.ixN (x::xs).length 0=Φ 0:=by simp[R.ixN]
 unfold R.atI;rw[this];rfl
def zry:R.atI (x::y::xs) 1=Φ y:=by
 have:R.ixN (x::y::xs).length 1=Φ 1:=by simp[R.ixN];lia
 unfold R.atI;rw[this];rfl
abbrev zaL(ns:List Int)(k:Nat):Int:=match ns[k]? with|some v=>v%10^64|none=>0
def zg4(ns)(k):0<=zaL ns k:=by unfold zaL;split;exact emod_nonneg _ (by decide);exact Int.le_refl 0
def zbq:∀ks:List Int,zaD (ks.map D.int)=Φ ks
 | []=>rfl| k::ks=>by unfold zaD;rw[Ν,Ϛ,show(ks.map D.int).mapM zed=Φ ks from zbq ks];rfl
end R
section
namespace Kz
local macro_rules|`(#[$x])=>`(.cons $x .nil)|`(#[$x,$y,*])=>`(.cons $x #[$y,*])
local macro_rules|`($x:ident)=>let s:=x.getId.toString;let n:=Lean.Syntax.mkNumLit (s.drop 1).toString;if s.length<2||!(s.drop 1).all Char.isDigit then Lean.Macro.throwUnsupported else if s.front=='J' then `(.loc $n) else if s.front=='Y' then `(.con (.int $n)) else Lean.Macro.throwUnsupported
local macro_rules | `(tactic| exists $e)=>`(tactic| refine R.wOpt_of $e ?_)
local macro_rules | `(tactic| change $e)=>`(tactic| refine R.wNeed_of $e ?_)
local macro_rules | `(tactic| specialize $e)=>`(tactic| refine R.wOut_of $e ?_)
local macro_rules | `(tactic| left)=>`(tactic| conv=>whnf)
local macro_rules | `(tactic| right)=>`(tactic| refine R.wNeed_of (by first|decide|lia|(simp;done)|(simp;lia)) ?_)
section
open PySem R L2
abbrev zo5:Fn:=⟨1,4,.nil,Φ .road⟩
abbrev ze8:Fn:=⟨1,1,(.ret (.and (.bi (.isin "int") #[J0]) (.nt (.bi (.isin "bool") #[J0]))) .nil),Ψ⟩
abbrev zhb:Fn:=⟨2,2,(.ret (.and (.call 1 0 #[J0]) (.cmp2 .LtE .Lt Y0 J0 J1)) .nil),Ψ⟩
abbrev zg8:Fn:=⟨1,1,(.ret (.and (.call 1 0 #[J0]) (.cmp .Lt (.bi .abs #[J0]) (.bin .Pow Y10 Y60))) .nil),Ψ⟩
abbrev ze9:Fn:=⟨3,3,(.ifS (.or (.nt (.tst (.call 1 0 #[J0]))) (.nt (.cmp2 .LtE .LtE J1 J0 J2)))
 .stop .nil (.ret J0 .nil)),Ψ⟩
abbrev zhc:Fn:=⟨2,2,(.ifS (.nt (.tst (.call 2 0 #[J0,J1])))
 .stop .nil (.ret J0 .nil)),Ψ⟩
abbrev zg6:Fn:=⟨1,1,(.ifS (.nt (.tst (.call 3 0 #[J0])))
 .stop .nil (.ret J0 .nil)),Ψ⟩
abbrev zmj:Fn:=⟨2,2,(.ret (.mt .count J0 #[J1]) .nil),Ψ⟩
abbrev zh6:Fn:=⟨1,3,.nil,Φ .tally⟩
abbrev zi0:Fn:=⟨2,3,(.asg 2 (.call 8 0 #[J0]) (.ret (.ite (.and (.tst J2) (.cmp .GtE (.ix (.ix J2 Y0) Y1) J1)) (.ix (.ix J2 Y0) Y0) (.con D.non)) .nil)),Ψ⟩
abbrev zdp:Fn:=⟨2,2,(.ret (.mkL (.comp 1 [1] [0] (.val J0) (.tst (.con (D.bl Γ))) (.ite (.cmp .In (.fld J0 "number") (.fld J1 "liars")) (.mk 0 35 "Liar" 0 #[J0,.fld J1 "lies"]) J0))) .nil),Ψ⟩
abbrev c_run:Fn:=⟨3,6,(.asg 3 (.lst .nil) (.forS [4] (.rng2 Y1 (.bin .Add J1 Y1)) (.asg 5 (.srtK (.call 12 0 #[J4,J0,J2])) (.expr (.callW 13 0 #[J4,J0,J5]) (.expr (.extv J3 J5) .nil))) (.ret J3 .nil))),Φ .lam⟩
abbrev c_said_in:Fn:=⟨3,9,(.asg 3 (.lst .nil) (.forS [4,5] (.enum J1) (.forS [6,7,8] (.val (.meth "say" [(0,38),(1,47)] J5 #[J0])) (.expr (.mt .append J3 #[.tup #[J0,J6,.ite (.cmp .Is J2 (.con D.non)) J7 (.ix (.ix J2 J4) J7),J8]]) .nil) .nil) (.ret J3 .nil))),Ψ⟩
abbrev c_deliver:Fn:=⟨3,7,(.asg 3 .dnew (.forS [4] (.val J2) (.expr (.mt .append (.dsetI J3 (.ix J4 Y2) (.lst .nil)) #[.tup #[.ix J4 Y1,.ix J4 Y3]]) .nil) (.forS [5,6] (.enum J1) (.expr (.meth "hear" [(0,37),(1,42)] J6 #[J0,.dgetI J3 J5 (.lst .nil)]) .nil) .nil))),Ψ⟩
abbrev zds:Fn:=⟨4,4,(.ret (.mkL (.comp 1 [0,1,2,3] [0] (.rng1 J0) (.tst (.con (D.bl Γ))) (.mk 1 39 "KingHand" 0 #[J0,J1,J2,J3,.ite (.cmp .Eq J0 J3) J4 (.con D.non)]))) .nil),Ψ⟩
abbrev zdq:Fn:=⟨1,1,(.ret (.bin .Add Y1 (.bin .Mult Y3 (.bin .Add J0 Y1))) .nil),Ψ⟩
abbrev zg7:Fn:=⟨1,1,(.ret (.bin .Mod (.bin .Sub J0 Y2) Y3) .nil),Ψ⟩
abbrev zem:Fn:=⟨2,4,(.forS [2,3] (.val J1) (.ifS (.and (.cmp .Eq J2 (.tup #[J0])) (.cmp .IsNot J3 (.con D.non))) (.ret J3 .nil) .nil .nil) (.ret Y0 .nil)),Ψ⟩
abbrev zha:Fn:=⟨2,2,(.ifS (.or (.nt (.tst (.bi (.isin "tuple") #[J0]))) (.nt (.cmp2 .LtE .LtE Y1 (.bi .len #[J0]) Y7))) (.ret (.con (D.bl Δ)) .nil) .nil (.ifS (.nt (.tst (.all (.comp 1 [1] [0] (.val J0) (.tst (.con (D.bl Γ))) (.call 2 0 #[J0,J1]))))) (.ret (.con (D.bl Δ)) .nil) .nil (.ret (.cmp .Eq (.lenset (.val J0)) (.bi .len #[J0])) .nil))),Ψ⟩
abbrev zc1:Fn:=⟨2,3,(.ifS (.cmp .Is J1 (.con D.non)) (.ret (.tup .nil) .nil) .nil (.asg 2 (.mkL (.comp 1 [0] [0] (.val J1) (.tst (.con (D.bl Γ))) (.call 5 0 #[J0,J1]))) (.ret (.mkT (.val (.sset J2))) .nil))),Ψ⟩
abbrev zdr:Fn:=⟨2,4,(.ifS (.cmp .Is J1 (.con D.non)) (.ret (.tup .nil) .nil) .nil (.forS [2,3] (.enum J1) (.ifS (.nt (.tst (.call 21 0 #[J3,J0])))
 .stop .nil .nil) (.ret (.mkT (.val J1)) .nil))),Ψ⟩
abbrev zi1:Fn:=⟨2,2,(.ifS (.or (.nt (.tst (.bi (.isin "tuple") #[J0]))) (.cmp .NotEq (.bi .len #[J0]) Y4)) (.ret (.con (D.bl Δ)) .nil) .nil (.ifS (.or (.nt (.tst (.call 22 0 #[.ix J0 Y0]))) (.nt (.tst (.call 18 0 #[.ix J0 Y1,J1])))) (.ret (.con (D.bl Δ)) .nil) .nil (.ifS (.or (.nt (.tst (.call 2 0 #[.ix J0 Y2,J1]))) (.cmp .In (.ix J0 Y2) (.ix J0 Y1))) (.ret (.con (D.bl Δ)) .nil) .nil (.ret (.or (.cmp .Is (.ix J0 Y3) (.con D.non)) (.call 3 0 #[.ix J0 Y3])) .nil)))),Ψ⟩
abbrev zg9:Fn:=⟨1,1,(.ret (.and (.call 1 0 #[J0]) (.cmp2 .LtE .LtE Y1 J0 Y30)) .nil),Ψ⟩
abbrev zc3:Fn:=⟨2,2,(.ifS (.cmp .Lt J1 (.bi .len #[J0])) (.ret (.bin .Mod (.ix J0 J1) (.bin .Pow Y10 Y64)) .nil) .nil (.ret Y0 .nil)),Ψ⟩
abbrev ze4:Fn:=⟨2,3,(.asg 2 (.bin .FloorDiv J0 Y5) (.ifS (.cmp .Eq (.bin .Mod J0 Y5) Y0) (.ret (.con D.non) .nil) .nil (.ifS (.cmp .Eq (.bin .Mod J0 Y5) Y1) (.ret (.bin .Mod J2 Y3) .nil) .nil (.ifS (.cmp .Eq (.bin .Mod J0 Y5) Y2) (.ret J1 .nil) .nil (.ifS (.cmp .Eq (.bin .Mod J0 Y5) Y3) (.ret (.bin .Sub (.bin .Mod J2 (.bin .Sub (.bin .Mult Y2 (.bin .Pow Y10 Y60)) Y1)) (.bin .Sub (.bin .Pow Y10 Y60) Y1)) .nil) .nil (.ret (.bin .Sub (.bin .Mod J2 Y5) Y2) .nil)))))),Ψ⟩
abbrev ze5:Fn:=⟨2,2,(.ifS (.cmp .Is J1 (.con D.non)) (.ret (.cmp .Is J0 (.con D.non)) .nil) .nil (.ret (.and (.bi (.isin "int") #[J0]) (.and (.nt (.bi (.isin "bool") #[J0])) (.cmp .Eq J0 J1))) .nil)),Ψ⟩
abbrev zep:Fn:=⟨3,7,(.asg 3 (.lst .nil) (.asg 4 (.mkL (.rng1 J1)) (.asg 5 (.bin .FloorDiv J0 (.bin .Add J2 Y1)) (.forS [6] (.rng1 (.bin .Mod J0 (.bin .Add J2 Y1))) (.expr (.mt .append J3 #[.mt .popAt J4 #[.bin .Mod J5 (.bi .len #[J4])]]) (.asg 5 (.bin .FloorDiv J5 Y7) .nil)) (.ret J3 .nil))))),Ψ⟩
abbrev zeo:Fn:=⟨3,6,(.asg 3 (.mkL (.comp 1 [2] [0] (.rng1 J0) (.cmp .NotEq J0 J1) (.tup #[Y1,.tup #[J1],J0]))) (.forS [4] (.rng2 Y2 (.bin .Add Y2 (.bin .Mult Y3 (.bin .Add J1 Y1)))) (.forS [5] (.rng1 J0) (.ifS (.or (.cmp .NotEq (.bin .Mod J4 Y3) Y1) (.cmp .Eq J5 (.bin .Mod (.bin .FloorDiv (.bin .Sub J4 Y2) Y3) J0))) (.expr (.ext J3 (.comp 1 [4,5] [0] (.rng1 J0) (.cmp .NotEq J0 J2) (.tup #[J1,.tup #[J2],J0]))) .nil) .nil .nil) .nil) (.ret J3 .nil))),Ψ⟩
abbrev zeq:Fn:=⟨3,5,(.asg 3 (.call 23 0 #[J0,.bin .Add J1 (.bin .FloorDiv J2 Y50)]) (.forS [4] (.rng1 (.bin .Mod J2 Y50)) (.asg 3 (.bin .FloorDiv J3 Y12) .nil) (.ret (.bin .Mod J3 Y12) .nil))),Ψ⟩
abbrev zen:Fn:=⟨2,2,(.ifS (.cmp .Eq J0 Y1) (.ret (.con D.non) .nil) .nil (.ifS (.cmp .Eq J0 Y2) (.ret J1 .nil) .nil (.ret (.bin .Sub J0 Y6) .nil))),Ψ⟩
abbrev ze6:Fn:=⟨5,11,(.asg 5 (.mkL (.comp 1 [3] [0] (.val J2) (.cmp .In (.ix (.ix J0 Y1) (.neg Y1)) J1) J0)) (.asg 6 (.call 23 0 #[J0,J1]) (.asg 7 (.lst .nil) (.ifS (.cmp .Eq (.bin .Mod J6 Y2) Y1) (.forS [8] (.rng1 (.bi .len #[J5])) (.asg 9 (.call 28 0 #[J0,.bin .Add J1 Y1,J8]) (.ifS (.cmp .Gt J9 Y0) (.expr (.mt .append J7 #[.bin .Add (.ix J5 J8) (.tup #[.call 29 0 #[J9,J4]])]) .nil) .nil .nil)) (.ret J7 .nil)) .nil (.asg 6 (.bin .FloorDiv J6 Y2) (.asg 10 (.bin .Add Y1 (.bin .Mod J6 Y900007)) (.forS [8] (.rng1 (.bin .FloorDiv (.bin .Mult (.bin .Mod (.bin .FloorDiv J6 Y100) Y3) (.bi .len #[J5])) Y2)) (.asg 10 (.bin .Mod (.bin .Add (.bin .Add (.bin .Mult J10 Y2203) (.bin .Mult Y41 J8)) Y2011) Y8000009) (.expr (.mt .append J7 #[.bin .Add (.ix J5 J8) (.tup #[.call 24 0 #[.bin .FloorDiv J10 Y2,J4]])]) .nil)) (.forS [8] (.rng2 (.bin .Add J1 Y1) (.bi .min2 #[.bi .len #[J0],Y70])) (.ifS (.cmp .Gt (.bi .len #[J5]) Y0) (.expr (.mt .append J7 #[.bin .Add (.ix J5 (.bin .Mod (.bin .Add J6 J8) (.bi .len #[J5]))) (.tup #[.call 24 0 #[.call 23 0 #[J0,J8],J4]])]) .nil) .nil .nil) (.ret J7 .nil))))))))),Ψ⟩
abbrev ze7:Fn:=⟨2,2,(.ret (.mkL (.comp 1 [1] [0] (.val J0) (.cmp .Eq (.ix J0 Y2) J1) (.tup #[.ix J0 Y0,.ix J0 Y1,.ix J0 Y3]))) .nil),Ψ⟩
abbrev zc2:Fn:=⟨2,2,(.ret (.mkL (.comp 1 [1] [0] (.val J0) (.cmp .Eq (.ix (.ix J0 Y1) (.neg Y1)) J1) J0)) .nil),Ψ⟩
abbrev c_law_second:Fn:=⟨3,5,(.asg 3 (.lst .nil) (.forS [4] (.val J0) (.ifS (.cmp .Eq (.ix J4 Y2) J1) (.expr (.mt .append J3 #[.tup #[.ix J4 Y0,.ix J4 Y1,J1,.bin .Mod J2 (.bin .Pow Y10 Y9)]]) .nil) (.ifS (.and (.cmp .Eq (.bin .Mod J2 Y3) Y1) (.cmp .NotEq (.ix (.ix J4 Y1) (.neg Y1)) J1)) (.expr (.mt .append J3 #[.tup #[.ix J4 Y0,.ix J4 Y1,.ix J4 Y2,.bin .Mod J2 Y1009]]) .nil) .nil .nil) .nil) (.forS [4] (.val (.slS J0 (.neg Y1))) (.ifS (.cmp .Eq (.ix J4 Y2) J1) (.expr (.mt .append J3 #[J4]) .nil) .nil .nil) (.ret J3 .nil)))),Ψ⟩
abbrev c_law:Fn:=⟨1,14,(.asg 1 (.bin .Add Y2 (.bin .Mod (.call 23 0 #[J0,Y0]) Y6)) (.asg 2 (.bin .Mod (.call 23 0 #[J0,Y1]) (.bin .Sub Y4 (.intb (.cmp .Gt J1 Y5)))) (.asg 3 (.bin .Mod (.call 23 0 #[J0,Y2]) J1) (.asg 4 (.bin .Sub (.bin .Mod (.call 23 0 #[J0,Y3]) (.bin .Sub (.bin .Mult Y2 (.bin .Pow Y10 Y60)) Y1)) (.bin .Sub (.bin .Pow Y10 Y60) Y1)) (.asg 5 (.call 26 0 #[.call 23 0 #[J0,Y4],J1,J1]) (.asg 6 (.bin .Mod (.bin .Add (.bin .Add J3 Y1) (.bin .Mod (.call 23 0 #[J0,Y5]) (.bin .Sub J1 Y1))) J1) (.asg 7 (.call 30 0 #[J0,Y7,.call 27 0 #[J1,J2,J3],J5,J4]) (.asg 8 (.mk 2 50 "Kings" 0 #[.mk 3 55 "Setting" 0 #[J1,J2,J5,J7],J3,J4]) (.asg 9 (.meth "letters" [(2,53)] J8 .nil) (.asg 10 (.mkL (.comp 1 [6] [0] (.rng1 J1) (.cmp .NotEq J0 J1) J0)) (.asg 11 (.call 23 0 #[J0,Y6]) (.asg 12 (.mk 2 50 "Kings" 0 #[.mk 3 55 "Setting" 0 #[J1,J2,J10,.call 33 0 #[J9,J6,J11]],J3,.bin .Mod J11 (.bin .Pow Y10 Y60)]) (.ifS (.cmp .NotEq (.call 31 0 #[.meth "letters" [(2,53)] J12 .nil,J6]) (.call 31 0 #[J9,J6])) (.ret (.con (D.bl Δ)) .nil) .nil (.ifS (.and (.cmp .NotIn J6 J5) (.cmp .NotEq (.call 32 0 #[.meth "letters" [(2,53)] J12 .nil,J6]) (.call 32 0 #[J9,J6]))) (.ret (.con (D.bl Δ)) .nil) .nil (.asg 13 (.meth "ending" [(0,36),(1,41),(2,51)] J12 #[J6]) (.ret (.and (.call 25 0 #[J13,.meth "ending" [(0,36),(1,41),(2,51)] J8 #[J6]]) (.cmp .Eq (.meth "story" [(1,48),(2,54)] J12 #[J6]) (.meth "story" [(1,48),(2,54)] J8 #[J6]))) .nil)))))))))))))))),Ψ⟩
abbrev zes:Fn:=⟨3,3,(.expr (.callC 56 "Hand" "__init__" #[J0,.fld J1 "number",.fld J1 "many",.fld J1 "rounds"]) (.setF J0 "inner" J1 (.setF J0 "lies" (.mkT (.val J2)) .nil))),Ψ⟩
abbrev zf3:Fn:=⟨1,1,(.ret (.meth "ending" [(0,36),(1,41),(2,51)] (.fld J0 "inner") .nil) .nil),Ψ⟩
abbrev zet:Fn:=⟨3,3,(.expr (.meth "hear" [(0,37),(1,42)] (.fld J0 "inner") #[J1,J2]) .nil),Ψ⟩
abbrev zfa:Fn:=⟨2,3,(.asg 2 (.call 0 0 #[.fld J0 "lies"]) (.ret (.mkL (.comp 3 [2,1] [0,1,2] (.val (.meth "say" [(0,38),(1,47)] (.fld J0 "inner") #[J1])) (.tst (.con (D.bl Γ))) (.tup #[J0,J1,.callV J3 #[J4,J0,J1,J2]]))) .nil)),Ψ⟩
abbrev zce:Fn:=⟨6,6,(.expr (.callC 56 "Hand" "__init__" #[J0,J1,J2,.call 15 0 #[J3]]) (.setF J0 "bound" J3 (.setF J0 "sender" J4 (.setF J0 "word" J5 (.setF J0 "held" J5 (.setF J0 "backing" Y0 (.setF J0 "holdings" (.lst .nil) .nil))))))),Ψ⟩
abbrev zbl:Fn:=⟨2,2,(.ret (.bin .Add (.lst #[.fld J0 "held"]) (.mkL (.comp 2 [] [0,1] (.val J1) (.tst (.con (D.bl Γ))) J1))) .nil),Ψ⟩
abbrev zbI:Fn:=⟨1,1,(.ret (.ite (.cmp .Eq (.fld J0 "number") (.fld J0 "sender")) (.fld J0 "word") (.fld J0 "held")) .nil),Ψ⟩
abbrev zcf:Fn:=⟨3,3,(.ifS (.cmp .Eq J1 Y1) (.expr (.meth "hear_sender" [(1,45)] J0 #[J2]) .nil) (.ifS (.cmp .Eq (.call 16 0 #[J1]) Y0) (.setF J0 "held" (.call 9 0 #[.meth "all_words" [(1,40)] J0 #[J2],.bi .max2 #[.bin .Sub (.fld J0 "many") (.fld J0 "bound"),Y1]]) .nil) (.ifS (.cmp .Eq (.call 16 0 #[J1]) Y1) (.expr (.meth "hear_backing" [(1,43)] J0 #[J2]) .nil) (.expr (.meth "hear_king" [(1,44)] J0 #[J1,J2]) .nil) .nil) .nil) (.expr (.mt .append (.fld J0 "holdings") #[.fld J0 "held"]) .nil)),Ψ⟩
abbrev za4:Fn:=⟨2,3,(.asg 2 (.meth "all_words" [(1,40)] J0 #[J1]) (.setF J0 "held" (.call 9 0 #[J2,.bin .Add (.fld J0 "bound") Y1]) (.setF J0 "backing" (.ite (.cmp .Is (.fld J0 "held") (.con D.non)) Y0 (.call 7 0 #[J2,.fld J0 "held"])) .nil))),Ψ⟩
abbrev zbk:Fn:=⟨3,4,(.ifS (.and (.cmp .IsNot (.fld J0 "held") (.con D.non)) (.cmp .GtE (.fld J0 "backing") (.bin .Sub (.fld J0 "many") (.fld J0 "bound")))) (.retN .nil) .nil (.asg 3 (.meth "king_of" [(1,46)] J0 #[J1]) (.ifS (.cmp .NotEq (.fld J0 "number") J3) (.setF J0 "held" (.call 17 0 #[J3,J2]) .nil) (.ifS (.cmp .Is (.fld J0 "held") (.con D.non)) (.setF J0 "held" Y0 .nil) .nil .nil) .nil))),Ψ⟩
abbrev za7:Fn:=⟨2,2,(.ifS (.cmp .NotEq (.fld J0 "number") (.fld J0 "sender")) (.setF J0 "held" (.call 17 0 #[.fld J0 "sender",J1]) .nil) .nil .nil),Ψ⟩
abbrev zbw:Fn:=⟨2,2,(.ret (.bin .Mod (.bin .FloorDiv (.bin .Sub J1 Y2) Y3) (.fld J0 "many")) .nil),Ψ⟩
abbrev zcA:Fn:=⟨2,2,(.ifS (.cmp .NotIn (.fld J0 "number") (.meth "writers" [(1,49)] J0 #[J1])) (.ret (.lst .nil) .nil) .nil (.ret (.mkL (.comp 1 [0] [0] (.rng1 (.fld J0 "many")) (.cmp .NotEq J0 (.fld J1 "number")) (.tup #[.tup #[.fld J1 "number"],J0,.fld J1 "held"]))) .nil)),Ψ⟩
abbrev zbY:Fn:=⟨1,1,(.ret (.mkL (.val (.fld J0 "holdings"))) .nil),Ψ⟩
abbrev zbv:Fn:=⟨2,2,(.ifS (.cmp .Eq J1 Y1) (.ret (.lst #[.fld J0 "sender"]) .nil) .nil (.ifS (.cmp .Eq (.call 16 0 #[J1]) Y2) (.ret (.lst #[.meth "king_of" [(1,46)] J0 #[J1]]) .nil) .nil (.ret (.mkL (.rng1 (.fld J0 "many"))) .nil))),Ψ⟩
abbrev zdt:Fn:=⟨4,5,(.expr (.call 5 0 #[J2,.fld J1 "many"]) (.expr (.call 6 0 #[J3]) (.asg 4 (.call 14 0 #[.fld J1 "many",.fld J1 "bound",J2,J3]) (.expr (.callC 57 "Play" "__init__" #[J0,J4,.call 10 0 #[J4,J1],.call 15 0 #[.fld J1 "bound"]]) .nil)))),Ψ⟩
abbrev zc4:Fn:=⟨2,2,(.ret (.meth "ending" [(0,36),(1,41),(2,51)] (.meth "hand_at" [(2,52)] J0 #[J1]) .nil) .nil),Ψ⟩
abbrev zcz:Fn:=⟨2,2,(.ret (.ix (.fld J0 "hands") (.call 5 0 #[J1,.bi .len #[.fld J0 "hands"]])) .nil),Ψ⟩
abbrev zcy:Fn:=⟨1,1,(.ret (.mkL (.val (.fld J0 "sent"))) .nil),Ψ⟩
abbrev zc5:Fn:=⟨2,2,(.ret (.meth "story" [(1,48),(2,54)] (.meth "hand_at" [(2,52)] J0 #[J1]) .nil) .nil),Ψ⟩
abbrev zbD:Fn:=⟨5,5,(.setF J0 "many" (.call 4 0 #[J1,Y1,Y7]) (.setF J0 "bound" (.call 4 0 #[J2,Y0,Y5]) (.setF J0 "liars" (.call 19 0 #[J1,J3]) (.setF J0 "lies" (.call 20 0 #[J1,J4]) .nil)))),Ψ⟩
abbrev zeu:Fn:=⟨4,4,(.setF J0 "number" J1 (.setF J0 "many" J2 (.setF J0 "rounds" J3 .nil))),Ψ⟩
abbrev zer:Fn:=⟨4,4,(.setF J0 "hands" J1 (.setF J0 "sent" (.callW 11 1 #[J2,J3]) .nil)),Ψ⟩
abbrev prog:List Fn:=[zo5,ze8,zhb,zg8,ze9,zhc,zg6,zmj,zh6,zi0,zdp,c_run,c_said_in,c_deliver,zds,zdq,zg7,zem,zha,zc1,zdr,zi1,zg9,zc3,ze4,ze5,zep,zeo,zeq,zen,ze6,ze7,zc2,c_law_second,c_law,zes,zf3,zet,zfa,zce,zbl,zbI,zcf,za4,zbk,za7,zbw,zcA,zbY,zbv,zdt,zc4,zcz,zcy,zc5,zbD,zeu,zer]
abbrev top(i:Nat):Stmt:=PySem.Challenge.pw_traitorround_k56_kings_told_alike.main.body.getD i (.Pass ⟨0,0,0,0⟩)
noncomputable abbrev zdb:Stmt:=top 2
noncomputable abbrev zhy:Stmt:=top 11
noncomputable abbrev zjs:Stmt:=top 12
noncomputable abbrev zjp:Stmt:=top 13
noncomputable abbrev zhz:Stmt:=top 14
noncomputable abbrev zjt:Stmt:=top 15
noncomputable abbrev zjm:Stmt:=top 16
noncomputable abbrev zm6:Stmt:=top 17
noncomputable abbrev zcS:Stmt:=top 18
noncomputable abbrev zkK:Stmt:=top 19
noncomputable abbrev zfp:Stmt:=top 23
noncomputable abbrev ziv:Stmt:=top 25
noncomputable abbrev zjo:Stmt:=top 26
noncomputable abbrev zju:Stmt:=top 27
noncomputable abbrev zft:Stmt:=top 33
noncomputable abbrev zfq:Stmt:=top 34
noncomputable abbrev zjn:Stmt:=top 35
noncomputable abbrev zgl:Stmt:=top 36
noncomputable abbrev zjr:Stmt:=top 39
noncomputable abbrev zez:Stmt:=top 45
noncomputable abbrev zfr:Stmt:=top 46
noncomputable abbrev zkL:Stmt:=top 47
noncomputable abbrev zjq:Stmt:=top 48
noncomputable abbrev zeB:Stmt:=top 50
noncomputable abbrev zhu:Stmt:=top 51
noncomputable abbrev zhv:Stmt:=top 52
noncomputable abbrev zgo:Stmt:=top 53
noncomputable abbrev zgn:Stmt:=top 54
noncomputable abbrev zgp:Stmt:=top 55
noncomputable abbrev zgm:Stmt:=top 56
noncomputable abbrev zhw:Stmt:=top 57
noncomputable abbrev zhx:Stmt:=top 58
noncomputable abbrev zeA:Stmt:=top 59
noncomputable abbrev zfs:Stmt:=top 60
noncomputable abbrev zsN:Stmt:=top 61
abbrev zbr(s:Stmt)(j:Nat):Stmt:=match s with|.ClassDef _ _ _ b _ _ _ _ _ _ _=>b.getD j (.Pass ⟨0,0,0,0⟩)|s=>s
noncomputable abbrev zgr:Stmt:=zbr (top 22) 0
noncomputable abbrev zeD:Stmt:=zbr (top 22) 3
noncomputable abbrev zgs:Stmt:=zbr (top 22) 2
noncomputable abbrev zhA:Stmt:=zbr (top 22) 1
noncomputable abbrev zdx:Stmt:=zbr (top 31) 0
noncomputable abbrev zb8:Stmt:=zbr (top 31) 5
noncomputable abbrev zcT:Stmt:=zbr (top 31) 10
noncomputable abbrev zdy:Stmt:=zbr (top 31) 4
noncomputable abbrev zbG:Stmt:=zbr (top 31) 7
noncomputable abbrev zb7:Stmt:=zbr (top 31) 8
noncomputable abbrev zbO:Stmt:=zbr (top 31) 6
noncomputable abbrev zcE:Stmt:=zbr (top 31) 3
noncomputable abbrev zd0:Stmt:=zbr (top 31) 1
noncomputable abbrev zdc:Stmt:=zbr (top 31) 9
noncomputable abbrev zcD:Stmt:=zbr (top 31) 2
noncomputable abbrev zfu:Stmt:=zbr (top 32) 0
noncomputable abbrev zeC:Stmt:=zbr (top 29) 3
noncomputable abbrev zdZ:Stmt:=zbr (top 29) 1
noncomputable abbrev zdY:Stmt:=zbr (top 29) 2
noncomputable abbrev zeE:Stmt:=zbr (top 32) 1
noncomputable abbrev zdX:Stmt:=zbr (top 44) 0
noncomputable abbrev zgt:Stmt:=zbr (top 21) 0
noncomputable abbrev zgq:Stmt:=zbr (top 29) 0
noncomputable abbrev zkM:Stmt:=(zaj zdb).getD 2 (.Pass ⟨0,0,0,0⟩)
def ztU:CloSt zkM:=⟨⟨_,_,_,_,_,_,_,_,_,_,rfl,rfl⟩,rfl,rfl,rfl,by decide +kernel,by decide +kernel,rfl,rfl,rfl,rfl,rfl,λ_ _ _ _ _ _ _ _ _=>rfl,⟨_,rfl⟩,rfl,rfl,λ_=>rfl,λ_ _ h=>zrq rfl h⟩
noncomputable instance mks:R.Mks:={ts:=[(23,"road.<locals>.word_on_arrival"),(168,"tally.<locals>.<lambda>"),(268,"run.<locals>.<lambda>")],cl:=[258,419,445,503],rs:=Φ zkM,ro:=ztU}
abbrev tab:Tab:=⟨["abs","all","bool","enumerate","int","isinstance","len","list","max","min","range","set","sorted","tuple"],[("STILL",(D.int 0)),("LONGEST",(D.int 7)),("MOST_HANDS",(D.int 7)),("GREATEST_BOUND",(D.int 5)),("LAST_TURN",(D.int 30))],("road",["lies"],0)::("is_whole",["thing"],0)::("is_hand",["thing","many"],0)::("is_word",["thing"],0)::("count_of",["thing","least","greatest"],0)::("hand_of",["thing","many"],0)::("word_of",["thing"],0)::("times",["words","word"],0)::("tally",["words"],0)::("strong",["words","least"],0)::("with_liars",["hands","setting"],0)::("run",["hands","rounds","wires"],1)::("said_in",["turn","hands","wires"],0)::("deliver",["turn","hands","said"],0)::("king_hands",["many","bound","sender","word"],0)::("rounds_for",["bound"],0)::("step_of",["turn"],0)::("word_from",["writer","letters"],0)::("is_path",["thing","many"],0)::("lying_among",["many","liars"],0)::("lies_among",["many","lies"],0)::("is_lie",["thing","many"],0)::("is_turn",["thing"],0)::("_law_cell_at",["_law_script","_law_k"],0)::("_law_word",["_law_cell","_law_word_here"],0)::("_law_like",["_law_found","_law_due"],0)::("_law_liars",["_law_cell","_law_many","_law_most_liars"],0)::("_law_slots",["_law_many","_law_bound","_law_sender"],0)::("_law_digit",["_law_script","_law_at","_law_k"],0)::("_law_small",["_law_digit_here","_law_word_here"],0)::("_law_lies",["_law_script","_law_at","_law_slots_here","_law_liars_here","_law_word_here"],0)::("_law_came",["_law_letters","_law_hand"],0)::("_law_written",["_law_letters","_law_hand"],0)::("_law_second",["_law_letters","_law_hand","_law_cell"],0)::("law",["_law_script"],0)::[],["Liar","KingHand","Kings","Setting"],["number","many","rounds","inner","lies","hands","sent","bound","sender","word","held","backing","holdings","liars"],[(1,"all_words",40),(0,"ending",36),(1,"ending",41),(2,"ending",51),(2,"hand_at",52),(0,"hear",37),(1,"hear",42),(1,"hear_backing",43),(1,"hear_king",44),(1,"hear_sender",45),(1,"king_of",46),(2,"letters",53),(0,"say",38),(1,"say",47),(1,"story",48),(2,"story",54),(1,"writers",49)],[(0,35,0),(1,39,0),(2,50,0),(3,55,0)],[("Hand","__init__",56),("Play","__init__",57)],[],["hands","rounds","wires","letters","turn","said"],268⟩
def zp7:RoadSt zdb:=⟨⟨_,_,zkM,_,_,rfl,rfl,by decide +kernel⟩,⟨rfl,rfl,rfl,by decide +kernel,rfl,by decide +kernel,by decide +kernel⟩,rfl,rfl⟩
def zmA:TallySt zcS:=⟨⟨_,_,_,_,_,_,_,_,_,_,_,_,_,_,_,_,_,_,_,_,_,_,_,_,_,_,_,_,_,_,_,_,rfl,rfl,rfl,λ_=>rfl,λ_=>rfl,⟨rfl,rfl,rfl,by decide +kernel,rfl,by decide +kernel,by decide +kernel⟩,by decide +kernel,λ_ _ _ _ _=>rfl⟩,⟨rfl,rfl,rfl,by decide +kernel,rfl,by decide +kernel,by decide +kernel⟩,rfl,rfl,rfl,rfl⟩
def O38:OkD tab prog 1 "is_whole" "is_whole" ["thing"] zhy:=zap ["thing"] rfl (by decide +kernel) λ_ _ _ _ _ _=>usS λ_=>usZ rfl
def O45:OkD tab prog 2 "is_hand" "is_hand" ["thing","many"] zjs:=zap ["thing","many"] rfl (by decide +kernel) λ_ _ _ _ _ _=>usS λ_=>usS λ_=>usZ rfl
def O43:OkD tab prog 3 "is_word" "is_word" ["thing"] zjp:=zap ["thing"] rfl (by decide +kernel) λ_ _ _ _ _ _=>usS λ_=>usZ rfl
def O41:OkD tab prog 4 "count_of" "count_of" ["thing","least","greatest"] zhz:=zap ["thing","least","greatest"] rfl (by decide +kernel) λ_ _ _ _ _ _=>usS λ_=>usS λ_=>usS λ_=>usZ rfl
def O42:OkD tab prog 5 "hand_of" "hand_of" ["thing","many"] zjt:=zap ["thing","many"] rfl (by decide +kernel) λ_ _ _ _ _ _=>usS λ_=>usS λ_=>usZ rfl
def O48:OkD tab prog 6 "word_of" "word_of" ["thing"] zjm:=zap ["thing"] rfl (by decide +kernel) λ_ _ _ _ _ _=>usS λ_=>usZ rfl
def O53:OkD tab prog 7 "times" "times" ["words","word"] zm6:=zap ["words","word"] rfl (by decide +kernel) λ_ _ _ _ _ _=>usS λ_=>usS λ_=>usZ rfl
def O51:OkD tab prog 9 "strong" "strong" ["words","least"] zkK:=zap ["words","least","rows"] rfl (by decide +kernel) λ_ _ _ _ _ _=>usS λ_=>usS λ_=>usZ rfl
def O25:OkD tab prog 10 "with_liars" "with_liars" ["hands","setting"] zfp:=zap ["hands","setting"] rfl (by decide +kernel) λ_ _ _ _ _ _=>usS λ_=>usS λ_=>usZ rfl
def O54:OkL tab prog 11 "run" ["hands","rounds","wires"] 1 ziv:=zte (F:=c_run) rfl rfl (by decide +kernel)
def O49:OkD tab prog 12 "said_in" "said_in" ["turn","hands","wires"] zjo:=zap ["turn","hands","wires","said","place","hand","path","to","word"] rfl (by decide +kernel) λ_ _ _ _ _ _=>usS λ_=>usS λ_=>usS λ_=>usZ rfl
def O50:OkD tab prog 13 "deliver" "deliver" ["turn","hands","said"] zju:=zap ["turn","hands","said","boxes","letter","place","hand"] rfl (by decide +kernel) λ_ _ _ _ _ _=>usS λ_=>usS λ_=>usS λ_=>usZ rfl
def O20:OkD tab prog 14 "king_hands" "king_hands" ["many","bound","sender","word"] zft:=zap ["many","bound","sender","word"] rfl (by decide +kernel) λ_ _ _ _ _ _=>usS λ_=>usS λ_=>usS λ_=>usS λ_=>usZ rfl
def O22:OkD tab prog 15 "rounds_for" "rounds_for" ["bound"] zfq:=zap ["bound"] rfl (by decide +kernel) λ_ _ _ _ _ _=>usS λ_=>usZ rfl
def O47:OkD tab prog 16 "step_of" "step_of" ["turn"] zjn:=zap ["turn"] rfl (by decide +kernel) λ_ _ _ _ _ _=>usS λ_=>usZ rfl
def O26:OkD tab prog 17 "word_from" "word_from" ["writer","letters"] zgl:=zap ["writer","letters","path","word"] rfl (by decide +kernel) λ_ _ _ _ _ _=>usS λ_=>usS λ_=>usZ rfl
def O46:OkD tab prog 18 "is_path" "is_path" ["thing","many"] zjr:=zap ["thing","many"] rfl (by decide +kernel) λ_ _ _ _ _ _=>usS λ_=>usS λ_=>usZ rfl
def O18:OkD tab prog 19 "lying_among" "lying_among" ["many","liars"] zez:=zap ["many","liars","told"] rfl (by decide +kernel) λ_ _ _ _ _ _=>usS λ_=>usS λ_=>usZ rfl
def O24:OkD tab prog 20 "lies_among" "lies_among" ["many","lies"] zfr:=zap ["many","lies","place","thing"] rfl (by decide +kernel) λ_ _ _ _ _ _=>usS λ_=>usS λ_=>usZ rfl
def O52:OkD tab prog 21 "is_lie" "is_lie" ["thing","many"] zkL:=zap ["thing","many"] rfl (by decide +kernel) λ_ _ _ _ _ _=>usS λ_=>usS λ_=>usZ rfl
def O44:OkD tab prog 22 "is_turn" "is_turn" ["thing"] zjq:=zap ["thing"] rfl (by decide +kernel) λ_ _ _ _ _ _=>usS λ_=>usZ rfl
def O19:OkD tab prog 23 "_law_cell_at" "_law_cell_at" ["_law_script","_law_k"] zeB:=zap ["_law_script","_law_k"] rfl (by decide +kernel) λ_ _ _ _ _ _=>usS λ_=>usS λ_=>usZ rfl
def O39:OkD tab prog 24 "_law_word" "_law_word" ["_law_cell","_law_word_here"] zhu:=zap ["_law_cell","_law_word_here","_law_rest"] rfl (by decide +kernel) λ_ _ _ _ _ _=>usS λ_=>usS λ_=>usZ rfl
def O37:OkD tab prog 25 "_law_like" "_law_like" ["_law_found","_law_due"] zhv:=zap ["_law_found","_law_due"] rfl (by decide +kernel) λ_ _ _ _ _ _=>usS λ_=>usS λ_=>usZ rfl
def O33:OkD tab prog 26 "_law_liars" "_law_liars" ["_law_cell","_law_many","_law_most_liars"] zgo:=zap ["_law_cell","_law_many","_law_most_liars","_law_found","_law_left","_law_rest","_law_k"] rfl (by decide +kernel) λ_ _ _ _ _ _=>usS λ_=>usS λ_=>usS λ_=>usZ rfl
def O29:OkD tab prog 27 "_law_slots" "_law_slots" ["_law_many","_law_bound","_law_sender"] zgn:=zap ["_law_many","_law_bound","_law_sender","_law_found","_law_turn","_law_writer"] rfl (by decide +kernel) λ_ _ _ _ _ _=>usS λ_=>usS λ_=>usS λ_=>usZ rfl
def O28:OkD tab prog 28 "_law_digit" "_law_digit" ["_law_script","_law_at","_law_k"] zgp:=zap ["_law_script","_law_at","_law_k","_law_cell","_law_j"] rfl (by decide +kernel) λ_ _ _ _ _ _=>usS λ_=>usS λ_=>usS λ_=>usZ rfl
def O27:OkD tab prog 29 "_law_small" "_law_small" ["_law_digit_here","_law_word_here"] zgm:=zap ["_law_digit_here","_law_word_here"] rfl (by decide +kernel) λ_ _ _ _ _ _=>usS λ_=>usS λ_=>usZ rfl
def O35:OkD tab prog 30 "_law_lies" "_law_lies" ["_law_script","_law_at","_law_slots_here","_law_liars_here","_law_word_here"] zhw:=zap ["_law_script","_law_at","_law_slots_here","_law_liars_here","_law_word_here","_law_some","_law_first","_law_lies_here","_law_k","_law_digit_here","_law_seed"] rfl (by decide +kernel) λ_ _ _ _ _ _=>usS λ_=>usS λ_=>usS λ_=>usS λ_=>usS λ_=>usZ rfl
def O40:OkD tab prog 31 "_law_came" "_law_came" ["_law_letters","_law_hand"] zhx:=zap ["_law_letters","_law_hand"] rfl (by decide +kernel) λ_ _ _ _ _ _=>usS λ_=>usS λ_=>usZ rfl
def O14:OkD tab prog 32 "_law_written" "_law_written" ["_law_letters","_law_hand"] zeA:=zap ["_law_letters","_law_hand"] rfl (by decide +kernel) λ_ _ _ _ _ _=>usS λ_=>usS λ_=>usZ rfl
def O23:OkD tab prog 33 "_law_second" "_law_second" ["_law_letters","_law_hand","_law_cell"] zfs:=zap ["_law_letters","_law_hand","_law_cell","_law_lies_here","_law_letter"] rfl (by decide +kernel) λ_ _ _ _ _ _=>usS λ_=>usS λ_=>usS λ_=>usZ rfl
def O55:OkD tab prog 34 "law" "law" ["_law_script"] zsN:=zap ["_law_script","_law_many","_law_bound","_law_sender","_law_word_here","_law_liars_here","_law_hand","_law_lies_here","_law_first","_law_letters","_law_others","_law_cell","_law_second_here","_law_found"] rfl (by decide +kernel) λ_ _ _ _ _ _=>usS λ_=>usZ rfl
def O30:OkD tab prog 35 "__init__" "Liar.__init__" ["self","inner","lies"] zgr:=zap ["self","inner","lies"] rfl (by decide +kernel) λ_ _ _ _ _ _=>usS λ_=>usS λ_=>usS λ_=>usZ rfl
def O15:OkD tab prog 36 "ending" "Liar.ending" ["self"] zeD:=zap ["self"] rfl (by decide +kernel) λ_ _ _ _ _ _=>usS λ_=>usZ rfl
def O31:OkD tab prog 37 "hear" "Liar.hear" ["self","turn","letters"] zgs:=zap ["self","turn","letters"] rfl (by decide +kernel) λ_ _ _ _ _ _=>usS λ_=>usS λ_=>usS λ_=>usZ rfl
def O36:OkD tab prog 38 "say" "Liar.say" ["self","turn"] zhA:=zap ["self","turn","bent"] rfl (by decide +kernel) λ_ _ _ _ _ _=>usS λ_=>usS λ_=>usZ rfl
def O8:OkD tab prog 39 "__init__" "KingHand.__init__" ["self","number","many","bound","sender","word"] zdx:=zap ["self","number","many","bound","sender","word"] rfl (by decide +kernel) λ_ _ _ _ _ _=>usS λ_=>usS λ_=>usS λ_=>usS λ_=>usS λ_=>usS λ_=>usZ rfl
def O2:OkD tab prog 40 "all_words" "KingHand.all_words" ["self","letters"] zb8:=zap ["self","letters"] rfl (by decide +kernel) λ_ _ _ _ _ _=>usS λ_=>usS λ_=>usZ rfl
def O6:OkD tab prog 41 "ending" "KingHand.ending" ["self"] zcT:=zap ["self"] rfl (by decide +kernel) λ_ _ _ _ _ _=>usS λ_=>usZ rfl
def O9:OkD tab prog 42 "hear" "KingHand.hear" ["self","turn","letters"] zdy:=zap ["self","turn","letters"] rfl (by decide +kernel) λ_ _ _ _ _ _=>usS λ_=>usS λ_=>usS λ_=>usZ rfl
def O0:OkD tab prog 43 "hear_backing" "KingHand.hear_backing" ["self","letters"] zbG:=zap ["self","letters","words"] rfl (by decide +kernel) λ_ _ _ _ _ _=>usS λ_=>usS λ_=>usZ rfl
def O3:OkD tab prog 44 "hear_king" "KingHand.hear_king" ["self","turn","letters"] zb7:=zap ["self","turn","letters","king"] rfl (by decide +kernel) λ_ _ _ _ _ _=>usS λ_=>usS λ_=>usS λ_=>usZ rfl
def O1:OkD tab prog 45 "hear_sender" "KingHand.hear_sender" ["self","letters"] zbO:=zap ["self","letters"] rfl (by decide +kernel) λ_ _ _ _ _ _=>usS λ_=>usS λ_=>usZ rfl
def O4:OkD tab prog 46 "king_of" "KingHand.king_of" ["self","turn"] zcE:=zap ["self","turn"] rfl (by decide +kernel) λ_ _ _ _ _ _=>usS λ_=>usS λ_=>usZ rfl
def O11:OkD tab prog 47 "say" "KingHand.say" ["self","turn"] zd0:=zap ["self","turn"] rfl (by decide +kernel) λ_ _ _ _ _ _=>usS λ_=>usS λ_=>usZ rfl
def O7:OkD tab prog 48 "story" "KingHand.story" ["self"] zdc:=zap ["self"] rfl (by decide +kernel) λ_ _ _ _ _ _=>usS λ_=>usZ rfl
def O5:OkD tab prog 49 "writers" "KingHand.writers" ["self","turn"] zcD:=zap ["self","turn"] rfl (by decide +kernel) λ_ _ _ _ _ _=>usS λ_=>usS λ_=>usZ rfl
def O21:OkD tab prog 50 "__init__" "Kings.__init__" ["self","setting","sender","word"] zfu:=zap ["self","setting","sender","word","hands"] rfl (by decide +kernel) λ_ _ _ _ _ _=>usS λ_=>usS λ_=>usS λ_=>usS λ_=>usZ rfl
def O16:OkD tab prog 51 "ending" "Play.ending" ["self","hand"] zeC:=zap ["self","hand"] rfl (by decide +kernel) λ_ _ _ _ _ _=>usS λ_=>usS λ_=>usZ rfl
def O10:OkD tab prog 52 "hand_at" "Play.hand_at" ["self","thing"] zdZ:=zap ["self","thing"] rfl (by decide +kernel) λ_ _ _ _ _ _=>usS λ_=>usS λ_=>usZ rfl
def O12:OkD tab prog 53 "letters" "Play.letters" ["self"] zdY:=zap ["self"] rfl (by decide +kernel) λ_ _ _ _ _ _=>usS λ_=>usZ rfl
def O17:OkD tab prog 54 "story" "Kings.story" ["self","hand"] zeE:=zap ["self","hand"] rfl (by decide +kernel) λ_ _ _ _ _ _=>usS λ_=>usS λ_=>usZ rfl
def O13:OkE tab prog 55 ["self","many","bound","liars","lies"] zdX:=ztf (F:=zbD) ["self","many","bound","liars","lies"] rfl (by decide +kernel)
def O34:OkD tab prog 56 "__init__" "Hand.__init__" ["self","number","many","rounds"] zgt:=zap ["self","number","many","rounds"] rfl (by decide +kernel) λ_ _ _ _ _ _=>usS λ_=>usS λ_=>usS λ_=>usS λ_=>usZ rfl
def O32:OkD tab prog 57 "__init__" "Play.__init__" ["self","hands","town","rounds"] zgq:=zap ["self","hands","town","rounds"] rfl (by decide +kernel) λ_ _ _ _ _ _=>usS λ_=>usS λ_=>usS λ_=>usS λ_=>usZ rfl
end
section
open R
def plen(S:R.St)(o:MO):(S.push o).len=S.len+1:=by simp[St.push,St.len];lia
def W_ex{b:Type}{o:Out b}{Q:b->R.St->Prop}(h:W o Q):∃a T,o=.ok a T/\Q a T:=W.iff.mp h
noncomputable abbrev pD(p:List Int):D:=.tup (p.map .int)
def zvc{P:List Fn}{F:Fn}{f n:Nat}{ds:List D}{S b:R.St}{d:D}(h:P[f]?=Φ F)(c:ds.length=F.np)(w:W (exS (callF P n) F.body (za5 F ds) S.enter) λr T=>wFin S r T λa e=>a=d/\e=b)(g:F.prim=Ψ:=by rfl) :
  app (callF P (n+1)) f ds S=.ok d b:=by
 refine W.eq ?_;rw[zmu h c g,zab];refine w.mono λr T q=>?_;unfold wFin at q;exact q
def zdD{cf:CF}{g:List Nat}{l:CL}{b r:CS}{δ:Ev}{S a:R.St}{xs:List D}{ls:List Nat}{Q:Fl->R.St->Prop}(h:evL cf l δ S=.ok (xs,ls) a)
  (w:W (zaM g (exS cf b) xs δ {a with lk:=ls++a.lk}) λf T=>match f with|.nx δ'=>W (exS cf r δ' {T with lk:=a.lk}) Q|.rt d=>Q (.rt d) {T with lk:=a.lk}):W (exS cf (.forS g l b r) δ S) Q:=by
 show W (Out.bind _ _) _;rw[h,zas];unfold zbj;dsimp only;rw[zab,zab];refine w.mono λf T c=>?_;rw[W_ok];cases f with|nx δ'=>exact c|rt d=>exact c
def zcv{n:Nat}{S:R.St}{ns:List Int}{k:Nat}:app (callF prog (n+1)) 23 [.fix (ns.map .int),.int k] S=.ok (.int (zaL ns k)) S:=by
 refine zaY (F:=zc3) rfl rfl ?_;left;refine zbJ (λc=>?_) (λc=>?_);have c:k<ns.length:=by simpa using c
 left;exists zh7 (x:=D.int ns[k]) (by simp[c]);left;change by decide
 left;change by decide
 left;refine zak rfl ⟨?_,rfl⟩;unfold zaL;rw[Ι c];rfl;have c:¬k<ns.length:=by simpa using c
 left;refine zak rfl ⟨?_,rfl⟩;unfold zaL;rw[List.getElem?_eq_none (by lia)]
noncomputable abbrev Ly:=K3×Option Int
abbrev lD(l:Ly):D:=.tup [.int l.1.1,pD l.1.2.1,.int l.1.2.2,oD l.2]
def zhX(N:Nat)(p:List Int):flat N (pD p)=Γ:=by simp[zaH]
def zlY(N:Nat)(o:Option Int):flat N (oD o)=Γ:=by cases o<;>rfl
def zfV(N:Nat)(l:Ly):flat N (lD l)=Γ:=by unfold lD;rw[zcs,zaH];intro d a;simp![mem_cons,not_mem_nil,or_false]at a;rcases a with rfl|rfl|rfl|rfl;rfl;exact zhX _ _;rfl;exact zlY _ _
def znX(N:Nat)(ls:List Ly):flats N (ls.map lD)=Γ:=by rw[zaH];intro d a;let⟨l,_,rfl⟩:=mem_map.mp a;exact zfV _ _
def zqS(l:Ly):lie4 (lD l)=Φ l:=by let⟨⟨a,p,b⟩,w⟩:=l;unfold lD lie4;dsimp only;rw[zbq];cases w<;>rfl
def zli:∀ls:List Ly,(ls.map lD).mapM lie4=Φ ls
 | []=>rfl|l::ls=>by rw[Ν,Ϛ,zqS,zli ls];rfl
abbrev atK(kvs:List Ly)(k:K3):Option (Option Int):=(kvs.find? λa=>decide (a.1=k)).map (·.2)
def zrx(kvs:List Ly)(k j:K3)(o:Option Int):atK (putW kvs k o) j=if j=k then Φ o else atK kvs j:=by
 unfold putW;by_cases c:k∈kvs.map (·.1);rw[if_pos c];induction kvs with
 |nil=>simp at c| cons x kvs g=>
  let⟨y,v⟩:=x;unfold atK at g⊢;rw[Ν];by_cases d:y=k;subst d;by_cases a:j=y;subst a;simp;have b:¬y=j:=λe=>a e.symm;rw[if_neg a];simp![if_true,ϑ,b,decide_false];by_cases f:y∈kvs.map (·.1);have:=g f;rw[if_neg a]at this;exact this;have e:(kvs.map λx=>if x.1=y then(x.1,o) else x)=kvs:=by refine(Τ λx h=>?_).trans (List.map_id kvs);rw[if_neg λe=>f (mem_map.mpr ⟨x,h,e⟩)];rfl
  rw[e];have f:k∈kvs.map (·.1):=by rw[Ν]at c;rcases mem_cons.mp c with e|e;exact absurd e.symm d;exact e
  have:=g f;rw[if_neg d];by_cases a:y=j;subst a;rw[if_neg d];simp;simp![ϑ,a,decide_false];exact this
 rw[if_neg c];unfold atK;rw[List.find?_append];by_cases a:j=k;subst a;have:(kvs.find? λi=>decide (i.1=j))=Ψ:=by rw[List.find?_eq_none];intro x h e;exact c (mem_map.mpr ⟨x,h,by simpa using e⟩)
 rw[this];simp;have b:¬k=j:=λe=>a e.symm;rw[if_neg a];simp[b]
abbrev zbZ(k:K3):Option Int->List Ly->Option Int
 |w,[]=>w|w,l::a=>zbZ k (if l.1=k then l.2 else w) a
def zi4(k:K3)(w:Option Int):∀(ls kvs:List Ly),(atK (zaz kvs ls) k).getD w=zbZ k ((atK kvs k).getD w) ls
 | [],kvs=>rfl| l::ls,kvs=>by rw[zaz,zbZ,zi4 k w ls,zrx];by_cases h:k=l.1;rw[if_pos h,if_pos h.symm];rfl;rw[if_neg h,if_neg λe=>h e.symm]
def zrr(ls:List Ly)(t:Int)(p:List Int)(b:Int)(w:Option Int):zdo (.clo (zaz [] ls)) [.int t,pD p,.int b,oD w]=Φ (oD (zbZ (t,p,b) w ls)):=by have:=zi4 (t,p,b) w ls [];unfold zdo;dsimp only;rw[zbq,Option.map_some];congr 1;rw[show(atK [] (t,p,b)).getD w=w from rfl]at this;rw[<-this];unfold atK;cases(zaz [] ls).find? λa=>decide (a.1=(t,p,b)) with|none=>rfl|some a=>cases h:a.2<;>simp[h,wD,oD]
structure LyOk(m:Int)(x:Ly):Prop where
 t1:1<=x.1.1
 t2:x.1.1<=30
 p1:1<=x.1.2.1.length
 p7:x.1.2.1.length<=7
 pi:∀i∈x.1.2.1,0<=i/\i<m
 pn:x.1.2.1.Nodup
 hi:0<=x.1.2.2/\x.1.2.2<m
 hp:x.1.2.2∉x.1.2.1
 wd:∀i,x.2=Φ i->-10^60<i/\i<10^60
def zdB{n:Nat}{S:R.St}{i:Int}:app (callF prog (n+1)) 1 [.int i] S=.ok (.bl Γ) S:=by refine zaY (F:=ze8) rfl rfl ?_;left;exists(show tyOf S.enter (.int i)=Φ "int" from rfl);left;exists(show tyOf S.enter (.int i)=Φ "int" from rfl);left;exact zak rfl ⟨rfl,rfl⟩
def zkt{n:Nat}{S:R.St}{i m:Int}(h:0<=i/\i<m):app (callF prog (n+2)) 2 [.int i,.int m] S=.ok (.bl Γ) S:=by refine zaY (F:=zhb) rfl rfl ?_;left;specialize zdB (n:=n);left;refine zi7 (by simpa using h.1) ?_;left;exact zak rfl ⟨by simp[h.2],rfl⟩
def zoB{n:Nat}{S:R.St}{i:Int}(h:-10^60<i/\i<10^60):app (callF prog (n+2)) 3 [.int i] S=.ok (.bl Γ) S:=by
 refine zaY (F:=zg8) rfl rfl ?_;left;specialize zdB (n:=n);left;right;left;refine zak rfl ⟨?_,rfl⟩;have:(if i<0 then -i else i)<(10:Int)^60:=by have a:=h.1;have b:=h.2;split<;>omega
 rw[show Int.toNat 60=60 from rfl,decide_eq_true this]
def zkv{n:Nat}{S:R.St}{i lo a:Int}(b:lo<=i)(c:i<=a):app (callF prog (n+2)) 4 [.int i,.int lo,.int a] S=.ok (.int i) S:=by refine zaY (F:=ze9) rfl rfl ?_;left;specialize zdB (n:=n);left;refine zi7 (by simpa using b) ?_;left;refine zj0 (by simpa using c) ?_;left;exact zak rfl ⟨rfl,rfl⟩
def zfl{n:Nat}{S:R.St}{i m:Int}(h:0<=i/\i<m):app (callF prog (n+3)) 5 [.int i,.int m] S=.ok (.int i) S:=by refine zaY (F:=zhc) rfl rfl ?_;left;specialize zkt (n:=n) h;left;exact zak rfl ⟨rfl,rfl⟩
def zn4{ns:List Int}(h:ns.Nodup):dedup ns=ns:=by
 unfold dedup;suffices ∀(l a:List Int),(a++l).Nodup->l.foldl (λa x=>if a.contains x then a else a++[x]) a=a++l from this ns [] h
 intro l;induction l with
 |nil=>intro a _;simp| cons x l b=>
  intro a h;rw[List.foldl_cons];have c:a.contains x=Δ:=by have:=(nodup_append.mp h).2.2;simp![List.contains_eq_mem,decide_eq_false_iff_not];exact λd=>this x d x Μ rfl
  rw[c];simp![Ρ,if_false];rw[b (a++[x]) (by simpa using h)];simp
def zoe(is:List Int)(f:D->D)(a:∀i,f (.int i)=.bl Γ):allD ((is.map D.int).map f)=Φ Γ:=by
 unfold allD;have:((is.map D.int).map f).mapM zhd=Φ (is.map λ_=>Γ):=by induction is with|nil=>rfl| cons q c b=>rw[Ν,Ν,Ϛ,a q,b];rfl
 rw[this];simp
def zsy{n:Nat}{S:R.St}{p:List Int}{m:Int}(p1:1<=p.length)(p7:p.length<=7)(b:∀i∈p,0<=i/\i<m)(pn:p.Nodup):app (callF prog (n+3)) 18 [pD p,.int m] S=.ok (.bl Γ) S:=by
 refine zaY (F:=zha) rfl rfl ?_;left;exists(show tyOf S.enter (pD p)=Φ "tuple" from rfl);left;refine zi7 (by simp;lia) ?_;left;refine zj0 (by simp;lia) ?_;left;refine zat ?_;refine W.of (zeJ (λd=>.bl Γ) (p.map D.int) Ψ (λz a=>rfl) (λz a=>?_)) ?_;let⟨q,c,rfl⟩:=mem_map.mp a;refine W.eq (wE_W _ ?_);left;specialize zkt (n:=n) (b q c);left;exact⟨rfl,rfl⟩;left;change by simp;lia
 left;exists zoe p _ (λ_=>rfl);left;exists zbq p;left;change by lia
 left;refine zak rfl ⟨?_,rfl⟩;rw[zn4 pn];simp
def zsw{n:Nat}{S:R.St}{t:Int}(a:1<=t)(b:t<=30):app (callF prog (n+2)) 22 [.int t] S=.ok (.bl Γ) S:=by refine zaY (F:=zg9) rfl rfl ?_;left;specialize zdB (n:=n);left;refine zi7 (by simpa using a) ?_;left;exact zak rfl ⟨by simp[b],rfl⟩
def zlO(S:R.St)(x:Int)(ks:List Int):cmpO S .In (.int x) (.tup (ks.map .int))=Φ (decide (x∈ks)):=ziO S x ks
def zuu{n:Nat}{S:R.St}{x:Ly}{m:Int}(h:LyOk m x):app (callF prog (n+4)) 21 [lD x,.int m] S=.ok (.bl Γ) S:=by let⟨⟨t,p,q⟩,w⟩:=x;let⟨a,b,c,d,e,f,g,j,k⟩:=h;dsimp only at a b c d e f g j k;refine zaY (F:=zi1) rfl rfl ?_;left;exists(show tyOf S.enter (lD ((t,p,q),w))=Φ "tuple" from rfl);left;unfold lD;dsimp only;left;exists zoc;left;specialize zsw (n:=n+1) a b;left;exists zry;left;specialize zsy (n:=n) c d e f;left;exists(show atI [.int t,pD p,.int q,oD w] 2=Φ (.int q) from rfl);left;specialize zkt (n:=n+1) g;left;exists(show atI [.int t,pD p,.int q,oD w] 2=Φ (.int q) from rfl);left;exists zry;left;exists zlO _ q p;left;refine zj0 (by simpa using j) ?_;left;exists(show atI [.int t,pD p,.int q,oD w] 3=Φ (oD w) from rfl);left;cases w with| none=>left;exact zak rfl ⟨rfl,rfl⟩| some i=>left;exists(show atI [.int t,pD p,.int q,oD (Φ i)] 3=Φ (oD (Φ i)) from rfl);left;specialize zoB (n:=n+1) (k i rfl);left;exact zak rfl ⟨rfl,rfl⟩
def zqP{S:R.St}{l:Nat}{ks:List Int}(h:S.get l=Φ (.lst (ks.map .int))):lstI S (.ref l)=Φ ks:=by unfold lstI;dsimp only;rw[h];exact zbq ks
abbrev liZ(hs:List Int):List Int:=zey (dedup hs)
def zn3(ns:List Int):(dedup ns).length<=ns.length:=by
 unfold dedup;suffices ∀(l a:List Int),(l.foldl (λa x=>if a.contains x then a else a++[x]) a).length<=a.length+l.length from by simpa using this ns []
 intro l;induction l with|nil=>intro a;simp| cons x l b=>intro a;rw[List.foldl_cons];refine le_trans (b _) ?_;split<;>simp<;>lia
def zqT(hs:List Int):(liZ hs).length<=hs.length:=by unfold liZ;rw[(zbF _).length_eq];exact zn3 hs
def zp1{n l:Nat}{S:R.St}{m:Int}{hs:List Int}(h:S.get l=Φ (.lst (hs.map .int)))(b:∀i∈hs,0<=i/\i<m)(e:hs.length<=60):app (callF prog (n+4)) 19 [.int m,.ref l] S=.ok (pD (liZ hs)) S:=by
 refine zaY (F:=zc1) rfl rfl ?_;left;refine zaA h ?_;left;refine zat ?_;refine W.of (zeJ (λd=>d) (hs.map D.int) Ψ (λz a=>rfl) (λz a=>?_)) ?_;let⟨q,c,rfl⟩:=mem_map.mp a;refine W.eq (wE_W _ ?_);left;specialize zfl (n:=n) (b q c);left;exact⟨rfl,rfl⟩;rw[List.map_id'];left;change by simp;lia
 left;change by simp;lia
 left;exists zqP (ziQ _ _ _);left;change by lia
 left;have:=zqT hs;unfold liZ at this;change by simp;lia
 left;refine zam rfl ?_;left;change by simp;lia
 left;exact zak (by simp) ⟨rfl,rfl⟩
def zrh{S:R.St}{l:Nat}{xs:List D}(h:S.get l=Φ (.lst xs)):zdn S (.ref l)=Φ (xs.mapIdx λi d=>zhH (.int i) d,[l]):=by unfold zdn;dsimp only;rw[h]
def zsA{n l:Nat}{S:R.St}{m:Int}{Ls:List Ly}(h:S.get l=Φ (.lst (Ls.map lD)))(g:∀x∈Ls,LyOk m x)(k:Ls.length<=1000):app (callF prog (n+5)) 20 [.int m,.ref l] S=.ok (.tup (Ls.map lD)) S:=by
 refine zaY (F:=zdr) rfl rfl ?_;left;exists zrh (zhT h _ _);left;refine zat ?_;refine W.mono (zaE (λi b T=>(∃u v:Option D,b=[Φ (.int m),Φ (.ref l),u,v])/\T=⟨S.frz++S.new,[],[l]⟩) (λ_ _=>False) _ 0 _ _ ⟨⟨Ψ,Ψ,rfl⟩,rfl⟩ ?_) ?_;rintro i z b T a ⟨⟨u,v,rfl⟩,rfl⟩;rw[List.getElem?_mapIdx,getElem?_map]at a;cases e:Ls[i]? with
 |none=>rw[e]at a;exact nS a
 |some x=>rw[e]at a;cases a;refine⟨[Φ (.int m),Φ (.ref l),Φ (.int i),Φ (lD x)],rfl,?_⟩;refine wS_W _ ?_;left;specialize(zuu (n:=n) (g x (mem_of_getElem? e)));left;exact⟨⟨_,_,rfl⟩,rfl⟩
 rintro f T c;cases f with
 |rt d=>exact c.elim| nx b=>
  let⟨⟨u,v,rfl⟩,rfl⟩:=c;left;refine zaA h ?_;left;change by simp;lia
  left;refine zak ?_ ⟨rfl,rfl⟩;rw[zcs,zaH];intro d j;let⟨x,_,rfl⟩:=mem_map.mp j;exact zfV _ x
abbrev hD(m b i s:Int)(w h:Option Int)(k:Int)(l:Nat):MO:=.ins 1 [("number",.int i),("many",.int m),("rounds",.int (1+3*(b+1))),("bound",.int b),("sender",.int s),("word",oD w),("held",oD h),("backing",.int k),("holdings",.ref l)]
section
variable{S:R.St}{a l:Nat}{m b i s k:Int}{w h:Option Int}
def zau{c:Nat}{d:List (PySem.Str×D)}(e:S.get a=Φ (.ins c d)):zb0 S (.ref a)=Φ (c,d):=by unfold zb0;dsimp only;rw[e]
def zaK{c:Nat}{d:List (PySem.Str×D)}{f:PySem.Str}{v:D}(e:S.get a=Φ (.ins c d))(g:d.lookup f=Φ v):((zb0 S (.ref a)).bind λp=>p.2.lookup f)=Φ v:=by rw[zau e];exact g
def zbu(e:S.get a=Φ (hD m b i s w h k l)):((zb0 S (.ref a)).bind λp=>p.2.lookup ("number":PySem.Str))=Φ (.int i):=zaK e rfl
def zeY(e:S.get a=Φ (hD m b i s w h k l)):((zb0 S (.ref a)).bind λp=>p.2.lookup ("many":PySem.Str))=Φ (.int m):=zaK e rfl
def znY(e:S.get a=Φ (hD m b i s w h k l)):((zb0 S (.ref a)).bind λp=>p.2.lookup ("rounds":PySem.Str))=Φ (.int (1+3*(b+1))):=zaK e rfl
def zhY(e:S.get a=Φ (hD m b i s w h k l)):((zb0 S (.ref a)).bind λp=>p.2.lookup ("bound":PySem.Str))=Φ (.int b):=zaK e rfl
def zfW(e:S.get a=Φ (hD m b i s w h k l)):((zb0 S (.ref a)).bind λp=>p.2.lookup ("sender":PySem.Str))=Φ (.int s):=zaK e rfl
def zdm(e:S.get a=Φ (hD m b i s w h k l)):((zb0 S (.ref a)).bind λp=>p.2.lookup ("held":PySem.Str))=Φ (oD h):=zaK e rfl
def zl0(e:S.get a=Φ (hD m b i s w h k l)):((zb0 S (.ref a)).bind λp=>p.2.lookup ("backing":PySem.Str))=Φ (.int k):=zaK e rfl
def zeZ(e:S.get a=Φ (hD m b i s w h k l)):((zb0 S (.ref a)).bind λp=>p.2.lookup ("holdings":PySem.Str))=Φ (.ref l):=zaK e rfl
def zbx{P:List Fn}{F:Fn}{f n:Nat}{ds:List D}{S:R.St}{Q:D->R.St->Prop}(h:P[f]?=Φ F)(c:ds.length=F.np)(w:W (exS (callF P n) F.body (za5 F ds) S) λr T=>match r with|.nx _=>Q .non T|.rt d=>Q d T)(e:F.prim=Ψ:=by rfl):W (appW (callF P (n+1)) f ds S) Q:=by unfold appW;simp![callF,h,c,e,if_true,zab];refine w.mono λr T q=>?_;cases r<;>exact q
def zbE{P:List Fn}{F:Fn}{f n:Nat}{ds:List D}{S c:R.St}{d:D}(h:P[f]?=Φ F)(e:ds.length=F.np)(w:wS (callF P n) F.body (za5 F ds) S λr T=>match r with|.nx _=>D.non=d/\T=c|.rt z=>z=d/\T=c)(g:F.prim=Ψ:=by rfl):appW (callF P (n+1)) f ds S=.ok d c:=by refine W.eq (zbx h e ((wS_W _ w).mono λr T q=>?_) g);cases r<;>exact q
abbrev zdz(m t:Int):Int:=(t-2)/3%m
def zoR{n:Nat}{t:Int}(e:S.get a=Φ (hD m b i s w h k l))(c:0<m):appW (callF prog (n+1)) 46 [.ref a,.int t] S=.ok (.int (zdz m t)) S:=by
 refine zbE (F:=zbw) rfl rfl ?_;left
 repeat (first|(right;conv=>whnf)|(refine zam rfl ?_;conv=>whnf)|(refine zaF rfl ?_;conv=>whnf)|(refine zaA (by assumption) ?_;conv=>whnf))
 exists zeY e;left;change c;left;exact⟨rfl,rfl⟩
def zkr{n:Nat}{t:Int}:app (callF prog (n+1)) 16 [.int t] S=.ok (.int ((t-2)%3)) S:=by
 refine zaY (F:=zg7) rfl rfl ?_;left
 repeat (first|(right;conv=>whnf)|(refine zam rfl ?_;conv=>whnf)|(refine zaF rfl ?_;conv=>whnf)|(refine zaA (by assumption) ?_;conv=>whnf))
 exact zak rfl ⟨rfl,rfl⟩
abbrev wrZ(m s t:Int):List Int:=if t=1 then [s] else if(t-2)%3=2 then [zdz m t] else(List.range m.toNat).map λ(k:Nat)=>(k:Int)
def zlc{n:Nat}{t:Int}(e:S.get a=Φ (hD m b i s w h k l))(f:0<m)(g:m<=7):appW (callF prog (n+2)) 49 [.ref a,.int t] S=.ok (.ref S.len) (S.push (.lst ((wrZ m s t).map .int))):=by
 refine zbE (F:=zbv) rfl rfl ?_;unfold wrZ;left;refine zbJ (λc=>?_) (λc=>?_);left;exists zfW e;left;right;left;rw[if_pos c];exact⟨rfl,rfl⟩;rw[if_neg c];left;specialize zkr (n:=n);left;refine zbJ (λd=>?_) (λd=>?_);rw[if_pos d];left;exists zau e;left;exists rfl;left;change rfl;left;specialize zoR (n:=n) e f;left;right;left;exact⟨rfl,rfl⟩;rw[if_neg d];left;exists zeY e;left;change by lia
 left;change by simp;lia
 left;rw[map_map];exact⟨rfl,rfl⟩
abbrev rwD(i:Int)(h:Option Int)(o:Int):D:=.tup [.tup [.int i],.int o,oD h]
abbrev rg(m:Int):List Int:=(List.range m.toNat).map λ(k:Nat)=>(k:Int)
abbrev sayL(m i:Int)(h:Option Int)(y:Bool):List D:=if y then((rg m).filter λo=>!decide (o=i)).map (rwD i h) else []
abbrev sayS(S:R.St)(m i s t:Int):R.St:=S.push (.lst ((wrZ m s t).map .int))
def zbb(p:Int->Bool)(f:Int->D)(q:D->Bool)(g:D->D)(c:∀o,q (.int o)=p o)(d:∀o,g (.int o)=f o):∀xs:List Int,((xs.map D.int).filter q).map g=(xs.filter p).map f
 | []=>rfl| x::xs=>by rw[Ν,List.filter_cons,List.filter_cons,c];cases p x with|true=>simp![if_true,Ν,d];rw[zbb p f q g c d xs]|false=>simpa using zbb p f q g c d xs
def ztl{n:Nat}{t:Int}(e:S.get a=Φ (hD m b i s w h k l))(p:0<m)(f:m<=7):appW (callF prog (n+3)) 47 [.ref a,.int t] S=.ok (.ref (sayS S m i s t).len) ((sayS S m i s t).push (.lst (sayL m i h (decide (i∈wrZ m s t))))):=by
 refine zbE (F:=zcA) rfl rfl ?_;have e1:(sayS S m i s t).get a=Φ (hD m b i s w h k l):=zae e;left;exists zbu e;left;exists zau e;left;exists rfl;left;change rfl;left;specialize zlc (n:=n) e p f;left;exists zd2 (zal _ _) i;left;unfold sayL;refine zi8 (λc=>?_) (λc=>?_);rw[ϟ]at c;rw[c];left;right;left;exact⟨rfl,rfl⟩;rw[Bool.not_eq_false']at c;rw[c];left;exists zeY e1;left;change by lia
 left;refine zat ?_;refine W.of (zaT (λd=>match d with|.int o=>!decide (o=i)|_=>Δ) (λd=>match d with|.int o=>rwD i h o|d=>d) _ Ψ (λz g=>?_) (λz g _=>?_)) ?_;let⟨o,_,rfl⟩:=mem_map.mp g;refine W.eq (wT_W _ ?_);left;exists zbu e1;left;exact⟨rfl,rfl⟩;let⟨o,_,rfl⟩:=mem_map.mp g;refine W.eq (wE_W _ ?_);left;exists zbu e1;left;right;left;exists zdm e1;left;right;left;exact⟨rfl,rfl⟩;have q:((List.range m.toNat).map λ(k:Nat)=>D.int (k:Int))=(rg m).map .int:=by unfold rg;rw[map_map];rfl
 rw[q,zbb (λo=>!decide (o=i)) (rwD i h) _ _ (λo=>rfl) (λo=>rfl)];have j:(((rg m).filter λo=>!decide (o=i)).map (rwD i h)).length<=7:=by rw[length_map];refine le_trans (ϛ _ _) ?_;unfold rg;rw[length_map,length_range];lia
 change le_trans j (by decide);left;change le_trans j (by decide);left;exact⟨rfl,rfl⟩
abbrev ltD(x:Int×Option Int):D:=.tup [.tup [.int x.1],oD x.2]
def zdj{cf:CF}{T:R.St}:∀(Ls:List (Int×Option Int))(u v:Option D),zax [0,1] (evT cf (.tst (.con (.bl Γ)))) (evE cf J1) (Ls.map ltD) [u,v] T=.ok ((Ls.map (·.2)).map oD) T
 | [],u,v=>rfl| x::Ls,u,v=>by have c:=zdj (cf:=cf) (T:=T) Ls (Φ (.tup [.int x.1])) (Φ (oD x.2));simp![Ν,ltD,zax,asgG,zev,Χ,Ϧ,if_true,List.set_cons_zero,List.set_cons_succ];show Out.bind (.ok Γ T) _=_;rw[zas,if_pos rfl];show Out.bind (.ok (oD x.2) T) _=_;rw[zas,c,zas]
abbrev wsZ(h:Option Int)(Ls:List (Int×Option Int)):List (Option Int):=h::Ls.map (·.2)
abbrev awS(S:R.St)(h:Option Int)(Ls:List (Int×Option Int)):R.St:=(S.push (.lst [oD h])).push (.lst ((Ls.map (·.2)).map oD))
def zld{n q:Nat}{Ls:List (Int×Option Int)}(e:S.get a=Φ (hD m b i s w h k l))(c:S.get q=Φ (.lst (Ls.map ltD)))(d:Ls.length<=60):appW (callF prog (n+1)) 40 [.ref a,.ref q] S=.ok (.ref (awS S h Ls).len) ((awS S h Ls).push (.lst ((wsZ h Ls).map oD))):=by
 refine zbE (F:=zbl) rfl rfl ?_;left;exists zdm e;left;right;left;exists zae c;left;refine zat ?_;refine W.of (zdj Ls Ψ Ψ) ?_;change by simp![length_map];lia
 left;change by simp![length_map];lia
 left;exists zae (zal _ _);left;exists zal _ _;left;change by simp![length_append,length_map,Χ,Ϧ];lia
 left;exact⟨rfl,rfl⟩
def zqI{n:Nat}{c:List (Option Int)}(e:S.get a=Φ (hD m b i s w h k l))(d:S.get l=Φ (.lst (c.map oD)))(f:c.length<=1000):appW (callF prog (n+1)) 48 [.ref a] S=.ok (.ref S.len) (S.push (.lst (c.map oD))):=by
 refine zbE (F:=zbY) rfl rfl ?_;left;exists zeZ e;left;exists d;left;change by simp![length_map];lia
 left;exact⟨rfl,rfl⟩
end
abbrev strR(os:List (Option Int))(k:Int):D:=match zbi (zah [] os) with|r::_=>if k<=r.2 then .int r.1 else .non | []=>.non
def zik{n l:Nat}{S:R.St}{os:List (Option Int)}{k:Int}(h:S.get l=Φ (.lst (os.map oD)))(b:(zah [] os).length<64)(d:os.length<=16777216):app (callF prog (n+5)) 9 [.ref l,.int k] S=.ok (strR os k) S:=by
 refine zaY (F:=zi0) rfl rfl ?_;left;specialize zmt (n:=n) (f:=8) (F:=zh6) (S:=S.enter) rfl rfl rfl (by rw[zbe];exact h) b d;left;unfold talD strR;generalize zbi (zah [] os)=a;cases a with
 |nil=>
  left
  repeat (first|(right;conv=>whnf)|(refine zam rfl ?_;conv=>whnf)|(refine zaF rfl ?_;conv=>whnf)|(refine zaA (by assumption) ?_;conv=>whnf))
  exact zak rfl ⟨rfl,rfl⟩
 |cons r a=>
  left
  repeat (first|(right;conv=>whnf)|(refine zam rfl ?_;conv=>whnf)|(refine zaF rfl ?_;conv=>whnf)|(refine zaA (by assumption) ?_;conv=>whnf))
  exists(zoc (x:=rowD r));left;exists zry;left;refine zbJ (λc=>?_) (λc=>?_)
  . left
    repeat (first|(right;conv=>whnf)|(refine zam rfl ?_;conv=>whnf)|(refine zaF rfl ?_;conv=>whnf)|(refine zaA (by assumption) ?_;conv=>whnf))
    exists(zoc (x:=rowD r));left;exists zoc;left;exact zak rfl ⟨by dsimp only;rw[if_pos c],rfl⟩
  left;exact zak rfl ⟨by dsimp only;rw[if_neg c],rfl⟩
abbrev stZ(os:List (Option Int))(k:Int):Option Int:=match zbi (zah [] os) with|r::_=>if k<=r.2 then Φ r.1 else Ψ | []=>Ψ
def zoo{os:List (Option Int)}{k:Int}(a:1<=k):strR os k=oD (stZ os k):=by
 unfold strR stZ;split
 . split<;>rfl
 rfl
def zpX{n l:Nat}{S:R.St}{os:List (Option Int)}{v:Int}(h:S.get l=Φ (.lst (os.map oD))):app (callF prog (n+1)) 7 [.ref l,.int v] S=.ok (.int (cntZ os (Φ v))) S:=by refine zaY (F:=zmj) rfl rfl ?_;left;refine zaA h ?_;left;refine zaA h ?_;left;exists zfb os;left;exact zak rfl ⟨rfl,rfl⟩
def zrj{a:Type}{xs:List a}{i:Nat}{x:a}(h:xs[i]?=Φ x):xs.drop i=x::xs.drop (i+1):=by let⟨b,rfl⟩:=Α.mp h;exact List.drop_eq_getElem_cons b
structure Mv(A:List Nat)(S T:R.St):Prop where
 frz:T.frz=S.frz
 lk:T.lk=S.lk
 len:S.len<=T.len
 old:∀m o,m∉A->S.get m=Φ o->T.get m=Φ o
def Mv.refl(A:List Nat)(S:R.St):Mv A S S:=⟨rfl,rfl,le_refl _,λ_ _ _ h=>h⟩
def Mv.trans{A:List Nat}{S T U:R.St}(a:Mv A S T)(b:Mv A T U):Mv A S U:=⟨b.frz.trans a.frz,b.lk.trans a.lk,le_trans a.len b.len,λm o h e=>b.old m o h (a.old m o h e)⟩
def Mv.push(A:List Nat)(S:R.St)(o:MO):Mv A S (S.push o):=⟨rfl,rfl,by rw[plen];lia,λ_ _ _ e=>zae e⟩
def Mv.up{A B:List Nat}{S T:R.St}(h:Mv A S T)(s:∀m,m∈A->m∈B):Mv B S T:=⟨h.frz,h.lk,h.len,λm o a e=>h.old m o (λz=>a (s m z)) e⟩
def get_lt{S:R.St}(h:S.get l=Φ o):l<S.len:=by unfold St.get at h;unfold St.len;split at h;lia;have:=(Α.mp h).1;lia
structure Fr(S:R.St)(a:Nat):Prop where
 f:S.frz.length<=a
 k:S.lk.contains a=Δ
def Fr.mv{A:List Nat}{S T:R.St}{a:Nat}(h:Fr S a)(v:Mv A S T):Fr T a:=⟨by rw[v.frz];exact h.f,by rw[v.lk];exact h.k⟩
def za1{S:R.St}{a c:Nat}{b gs:List (PySem.Str×D)}{f:PySem.Str}{v:D}(e:S.get a=Φ (.ins c b))(d:Fr S a)(g:b.length<1000)(h:zkO f v b=gs):∃T,zbU S (.ref a) f v=Φ T/\Mv [a] S T/\T.get a=Φ (.ins c gs):=by let⟨T,i,j,k,r,n,p⟩:=zfv (S:=S) (l:=a) (.ins c gs) d.f d.k;refine⟨T,?_,⟨j,k,by lia,λm o q e=>by rw[n m (by simpa using q)];exact e⟩,p (get_lt e)⟩;unfold zbU;dsimp only;rw[e];dsimp only;rw[if_pos g,h,i]
section
variable{S:R.St}{a l:Nat}{m b i s k:Int}{w h:Option Int}
def zcM{h':Option Int}(e:S.get a=Φ (hD m b i s w h k l))(c:Fr S a):∃T,zbU S (.ref a) "held" (oD h')=Φ T/\Mv [a] S T/\T.get a=Φ (hD m b i s w h' k l):=za1 e c (by simp) rfl
def zdM{k':Int}(e:S.get a=Φ (hD m b i s w h k l))(c:Fr S a):∃T,zbU S (.ref a) "backing" (.int k')=Φ T/\Mv [a] S T/\T.get a=Φ (hD m b i s w h k' l):=za1 e c (by simp) rfl
def zre(S:R.St)(x y:Int):cmpO S .Eq (.tup [.int x]) (.tup [.int y])=Φ (x==y):=by show eqD S (.tup [.int x]) (.tup [.int y])=_;show Φ (PySem.PyData.eqv (.tuple [.int x]) (.tuple [.int y]))=_;simp[PySem.PyData.eqv,PySem.PyData.eqvAll,L2.eqv_int]
end
abbrev wfZ(s:Int):List (Int×Option Int)->Int
 | []=>0|x::r=>match x.2 with|some v=>if x.1=s then v else wfZ s r|none=>wfZ s r
def s_wf{n q:Nat}{S:R.St}{s:Int}{Ls:List (Int×Option Int)}(h:S.get q=Φ (.lst (Ls.map ltD))):app (callF prog (n+1)) 17 [.int s,.ref q] S=.ok (.int (wfZ s Ls)) S:=by
 refine zaY (F:=zem) rfl rfl ?_;left;refine zaA h ?_;left;refine zat ?_;refine W.mono (zaE (λi g T=>T=⟨S.frz++S.new,[],[q]⟩/\wfZ s (Ls.drop i)=wfZ s Ls/\∃j k,g=[Φ (.int s),Φ (.ref q),j,k]) (λd _=>d=.int (wfZ s Ls)) _ 0 _ _ ⟨rfl,rfl,Ψ,Ψ,rfl⟩ ?_) ?_;rintro i z g T b ⟨rfl,a,j,k,rfl⟩;rw[zero_add];rw[getElem?_map]at b;cases e:Ls[i]? with
 |none=>rw[e]at b;exact nS b
 |some x=>
  rw[e]at b;cases b;rw[zero_add,zrj e]at a;refine⟨_,rfl,wS_W _ ?_⟩;left;right;left;exists zre _ _ _;left;refine zi8 (λc=>?_) (λc=>?_);have c:x.1=s:=by simpa using c
  cases e2:x.2 with| none=>left;refine⟨rfl,?_,_,_,rfl⟩;rw[<-a];simp[wfZ,e2]| some v=>left;rw[<-a];simp[wfZ,e2,c,oD]
  . have c:x.1≠s:=by simpa using c
    left;refine⟨rfl,?_,_,_,rfl⟩;rw[<-a];cases e2:x.2<;>simp[wfZ,e2,c]
 intro f T l;cases f with| nx g=>let⟨rfl,a,j,k,rfl⟩:=l;left;refine zak rfl ⟨?_,rfl⟩;rw[<-a];simp[wfZ]| rt d=>subst l;exact zak rfl ⟨rfl,rfl⟩
abbrev lst1(m b:Int):Int:=if 1>m-b then 1 else m-b
def znB(m b:Int):1<=lst1 m b:=by unfold lst1;split<;>lia
abbrev bkZ(os:List (Option Int))(b:Int):Int:=match stZ os (b+1) with|none=>0|some v=>cntZ os (Φ v)
abbrev kgZ(m b i t:Int)(h:Option Int)(k:Int)(Ls:List (Int×Option Int)):Option Int:=if(h.isSome&&decide (m-b<=k))=Γ then h else if i≠zdz m t then Φ (wfZ (zdz m t) Ls) else Φ (h.getD 0)
abbrev hrZ(m b i s t:Int)(h:Option Int)(k:Int)(Ls:List (Int×Option Int)):Option Int×Int:=if t=1 then(if i≠s then Φ (wfZ s Ls) else h,k) else if(t-2)%3=0 then(stZ (wsZ h Ls) (lst1 m b),k) else if(t-2)%3=1 then(stZ (wsZ h Ls) (b+1),bkZ (wsZ h Ls) b) else(kgZ m b i t h k Ls,k)
section
variable{S:R.St}{a l:Nat}{m b i s k:Int}{w h:Option Int}
def zoM{Ls:List (Int×Option Int)}(c:Ls.length<=60):(zah [] (wsZ h Ls)).length<64/\(wsZ h Ls).length<=16777216:=by
 have:=ze0 (wsZ h Ls);have e:(wsZ h Ls).length=Ls.length+1:=by simp[wsZ]
 lia
def m_hs{n q:Nat}{Ls:List (Int×Option Int)}(e:S.get a=Φ (hD m b i s w h k l))(f:Fr S a)(g:S.get q=Φ (.lst (Ls.map ltD))):W (appW (callF prog (n+2)) 45 [.ref a,.ref q] S) λd T=>Mv [a] S T/\T.get a=Φ (hD m b i s w (if i≠s then Φ (wfZ s Ls) else h) k l):=by
 refine zbx (F:=za7) rfl rfl (wS_W _ ?_);left;exists zbu e;left;exists zfW e;left;refine zi8 (λc=>?_) (λc=>?_);have c:i≠s:=by simpa using c
 left;exists zfW e;left;specialize(s_wf (n:=n) (s:=s) g);left;let⟨T,j,o,p⟩:=zcM (h':=Φ (wfZ s Ls)) e f;exists j;left;rw[if_pos c];exact⟨o,p⟩;have c:¬i≠s:=by simpa using c
 left;rw[if_neg c];exact⟨Mv.refl _ _,e⟩
def m_hb{n q:Nat}{Ls:List (Int×Option Int)}(e:S.get a=Φ (hD m b i s w h k l))(A:Fr S a)(B:S.get q=Φ (.lst (Ls.map ltD)))(t:Ls.length<=60)(M:0<=b):W (appW (callF prog (n+6)) 43 [.ref a,.ref q] S) λd T=>Mv [a] S T/\T.get a=Φ (hD m b i s w (stZ (wsZ h Ls) (b+1)) (bkZ (wsZ h Ls) b) l):=by
 refine zbx (F:=za4) rfl rfl (wS_W _ ?_);let⟨C,E⟩:=zoM (h:=h) t;have g:Mv [a] S ((awS S h Ls).push (.lst ((wsZ h Ls).map oD))):=((Mv.push _ _ _).trans (Mv.push _ _ _)).trans (Mv.push _ _ _);have e1:((awS S h Ls).push (.lst ((wsZ h Ls).map oD))).get a=Φ (hD m b i s w h k l):=zae (zae (zae e));have u:=A.mv g;have x:((awS S h Ls).push (.lst ((wsZ h Ls).map oD))).get (awS S h Ls).len=Φ (.lst ((wsZ h Ls).map oD)):=zal _ _;left;exists zau e;left;exists rfl;left;change rfl;left;specialize zld (n:=n+4) e B t;left;generalize G:(awS S h Ls).push (.lst ((wsZ h Ls).map oD))=N at *;left;exists zhY e1;left;specialize(zik (n:=n) (k:=b+1) x C E).trans (by rw[zoo (by lia)]);left;let⟨I,J,f,c⟩:=zcM (h':=stZ (wsZ h Ls) (b+1)) e1 u;exists J;left;exists zdm c;left;have y:=u.mv f;have j:I.get (awS S h Ls).len=Φ (.lst ((wsZ h Ls).map oD)):=f.old _ _ (by
  have:=get_lt e;simp![mem_singleton];unfold awS;rw[plen,plen];lia) x
 unfold bkZ;cases z:stZ (wsZ h Ls) (b+1) with| none=>rw[z]at c;left;let⟨L,o,p,r⟩:=zdM (k':=0) c y;exists o;left;exact⟨(g.trans f).trans p,r⟩| some v=>rw[z]at c;left;exists zdm c;left;specialize zpX (n:=n+4) (v:=v) j;left;let⟨L,o,p,r⟩:=zdM (k':=cntZ (wsZ h Ls) (Φ v)) c y;exists o;left;exact⟨(g.trans f).trans p,r⟩
def m_hk{n q:Nat}{t:Int}{Ls:List (Int×Option Int)}(e:S.get a=Φ (hD m b i s w h k l))(p:Fr S a)(u:S.get q=Φ (.lst (Ls.map ltD)))(x:0<m):W (appW (callF prog (n+2)) 44 [.ref a,.int t,.ref q] S) λd T=>Mv [a] S T/\T.get a=Φ (hD m b i s w (kgZ m b i t h k Ls) k l):=by
 refine zbx (F:=zbk) rfl rfl (wS_W _ ?_);have f:wS (callF prog (n+1)) (.asg 3 (.meth "king_of" [(1,46)] J0 #[J1]) (.ifS (.cmp .NotEq (.fld J0 "number") J3) (.setF J0 "held" (.call 17 0 #[J3,J2]) .nil) (.ifS (.cmp .Is (.fld J0 "held") (.con D.non)) (.setF J0 "held" Y0 .nil) .nil .nil) .nil)) [Φ (.ref a),Φ (.int t),Φ (.ref q),Ψ] S λr T=>match r with|.nx _=>Mv [a] S T/\T.get a=Φ (hD m b i s w (if i≠zdz m t then Φ (wfZ (zdz m t) Ls) else Φ (h.getD 0)) k l)|.rt _=>Mv [a] S T/\T.get a=Φ (hD m b i s w (if i≠zdz m t then Φ (wfZ (zdz m t) Ls) else Φ (h.getD 0)) k l):=by
  left;exists zau e;left;exists rfl;left;change rfl;left;specialize zoR (n:=n) e x;left;exists zbu e;left;refine zi8 (λc=>?_) (λc=>?_);have c:i≠zdz m t:=by simpa using c
  left;specialize(s_wf (n:=n) (s:=zdz m t) u);left;let⟨T,g,j,o⟩:=zcM (h':=Φ (wfZ (zdz m t) Ls)) e p;exists g;left;rw[if_pos c];exact⟨j,o⟩;have c:¬i≠zdz m t:=by simpa using c
  rw[if_neg c];left;exists zdm e;left;cases h with| none=>left;let⟨T,g,j,o⟩:=zcM (h':=Φ 0) e p;exists g;left;exact⟨j,o⟩| some v=>left;exact⟨Mv.refl _ _,e⟩
 unfold kgZ;cases h with| none=>left;exists zdm e;left;rw[if_neg (by simp)];exact f| some v=>left;exists zdm e;left;exists zl0 e;left;exists zeY e;left;exists zhY e;left;refine zbJ (λc=>?_) (λc=>?_);left;rw[if_pos (by simpa using c)];exact⟨Mv.refl _ _,e⟩;rw[if_neg (by simpa using c)];exact f
def ztI{n:Nat}{f g:Option D}{c:List (Option Int)}{Q:Fl->R.St->Prop}(e:S.get a=Φ (hD m b i s w h k l))(d:S.get l=Φ (.lst (c.map oD)))(j:Fr S l)(z:c.length<=1000)
  (q:∀U,Mv [l] S U->U.get l=Φ (.lst ((c++[h]).map oD))->Q (.nx [Φ (.ref a),f,g]) U):wS (callF prog n) (.expr (.mt .append (.fld J0 "holdings") #[.fld J0 "held"]) .nil) [Φ (.ref a),f,g] S Q:=by
 let⟨U,p,r,t,A,u,v⟩:=zfv (S:=S) (l:=l) (.lst ((c++[h]).map oD)) j.f j.k;have x:c.map oD++[oD h]=(c++[h]).map oD:=by simp
 left;exists zeZ e;left;exists d;left;exists zdm e;left;exists d;left;change by simp![length_append,length_map,Χ,Ϧ];lia
 left;exists by rw[x];exact p
 exact q U ⟨r,t,by lia,λm o y e=>by rw[u m (by simpa using y)];exact e⟩ (v (get_lt d))
def zoS{n q:Nat}{t:Int}{j:List (Option Int)}{Ls:List (Int×Option Int)}(e:S.get a=Φ (hD m b i s w h k l))(p:Fr S a)(u:S.get q=Φ (.lst (Ls.map ltD)))(M:S.get l=Φ (.lst (j.map oD)))(N:Fr S l)(o:l≠a)(x:j.length<=1000)(y:Ls.length<=60)(O:0<=b)(Q:0<m) :
  W (appW (callF prog (n+7)) 42 [.ref a,.int t,.ref q] S) λd T=>d=.non/\Mv [a,l] S T/\T.get a=Φ (hD m b i s w (hrZ m b i s t h k Ls).1 (hrZ m b i s t h k Ls).2 l)/\T.get l=Φ (.lst ((j++[(hrZ m b i s t h k Ls).1]).map oD)):=by
 refine zbx (F:=zcf) rfl rfl (wS_W _ ?_);let⟨z,A⟩:=zoM (h:=h) y;have c:∀(T:R.St)(h':Option Int)(B:Int),Mv [a] S T->T.get a=Φ (hD m b i s w h' B l)->hrZ m b i s t h k Ls=(h',B)->
   wS (callF prog (n+6)) (.expr (.mt .append (.fld J0 "holdings") #[.fld J0 "held"]) .nil) [Φ (.ref a),Φ (.int t),Φ (.ref q)] T λr T=>match r with|.nx _=>D.non=.non/\Mv [a,l] S T/\T.get a=Φ (hD m b i s w (hrZ m b i s t h k Ls).1 (hrZ m b i s t h k Ls).2 l)/\T.get l=Φ (.lst ((j++[(hrZ m b i s t h k Ls).1]).map oD))|.rt d=>d=.non/\Mv [a,l] S T/\T.get a=Φ (hD m b i s w (hrZ m b i s t h k Ls).1 (hrZ m b i s t h k Ls).2 l)/\T.get l=Φ (.lst ((j++[(hrZ m b i s t h k Ls).1]).map oD))
    :=by
  intro T h' B v I Y;rw[Y];refine ztI I (v.old _ _ (by simpa using o) M) (N.mv v) x λU J g=>⟨rfl,(v.up (by simp)).trans (J.up (by simp)),J.old _ _ (by simpa using o.symm) I,g⟩
 unfold hrZ at c⊢;left;refine zbJ (λC=>?_) (λC=>?_);rw[if_pos C]at c⊢;left;exists zau e;left;exists rfl;left;change rfl;left;refine zbo ((m_hs (n:=n+4) e p u).mono λd T f=>?_);exact c T _ _ f.1 f.2 rfl;rw[if_neg C]at c⊢;left;specialize zkr (n:=n+5);left;refine zbJ (λE=>?_) (λE=>?_);rw[if_pos E]at c⊢;left;exists zau e;left;exists rfl;left;change rfl;left;specialize zld (n:=n+5) e u y;left;have L:Mv [a] S ((awS S h Ls).push (.lst ((wsZ h Ls).map oD))):=((Mv.push _ _ _).trans (Mv.push _ _ _)).trans (Mv.push _ _ _);have e1:((awS S h Ls).push (.lst ((wsZ h Ls).map oD))).get a=Φ (hD m b i s w h k l):=zae (zae (zae e));have f1:=p.mv L;have ew:((awS S h Ls).push (.lst ((wsZ h Ls).map oD))).get (awS S h Ls).len=Φ (.lst ((wsZ h Ls).map oD)):=zal _ _;generalize hS1:(awS S h Ls).push (.lst ((wsZ h Ls).map oD))=S1 at *;left;exists zeY e1;left;exists zhY e1;left;specialize(zik (n:=n+1) (k:=lst1 m b) ew z A).trans (by rw[zoo (znB m b)]);left;let⟨S2,h1,h2,h3⟩:=zcM (h':=stZ (wsZ h Ls) (lst1 m b)) e1 f1;exists h1;left;exact c S2 _ _ (L.trans h2) h3 rfl;rw[if_neg E]at c⊢;left;specialize zkr (n:=n+5);left;refine zbJ (λG=>?_) (λG=>?_);rw[if_pos G]at c⊢;left;exists zau e;left;exists rfl;left;change rfl;left;refine zbo ((m_hb (n:=n) e p u y O).mono λd T f=>?_);exact c T _ _ f.1 f.2 rfl;rw[if_neg G]at c⊢;left;exists zau e;left;exists rfl;left;change rfl;left;refine zbo ((m_hk (n:=n+4) (t:=t) e p u Q).mono λd T f=>?_);exact c T _ _ f.1 f.2 rfl
end
def zil{n:Nat}{S:R.St}{b:Int}(c:0<=b)(a:b<=5):app (callF prog (n+1)) 15 [.int b] S=.ok (.int (1+3*(b+1))) S:=by
 refine zaY (F:=zdq) rfl rfl ?_;left;change by unfold zfD;simp
 left;exact zak rfl ⟨rfl,rfl⟩
def zcp{T:R.St}{N:Nat}(a:∀l∈T.lk,l<N)(b:N<=T.len):T.lk.contains T.len=Δ:=by rw[Bool.eq_false_iff];intro z;have:=a _ (List.contains_iff_mem.mp z);lia
structure Row where
 p:List Int
 to:Int
 w:D
abbrev rD(r:Row):D:=.tup [pD r.p,.int r.to,r.w]
abbrev leD(t:Int)(r:Row):D:=.tup [.int t,pD r.p,.int r.to,r.w]
noncomputable abbrev Bxl:=List Int×D
abbrev bxD(x:Bxl):D:=.tup [pD x.1,x.2]
abbrev key(r:Row):K3:=(0,r.p,r.to)
structure Town where
 H:Type
 m:Nat
 who:Nat->Nat
 adr:Nat->List Nat
 ok:R.St->Nat->Nat->H->Prop
 say:Nat->Int->H->List Row
 hear:Nat->Int->H->List Bxl->H
 lt:Bxl->Prop
 tt:Int->Prop
abbrev saT:List (Nat×Nat):=[(0,38),(1,47)]
abbrev heT:List (Nat×Nat):=[(0,37),(1,42)]
abbrev Town.said(V:Town)(t:Int):Nat->List V.H->List Row
 |_,[]=>[]|k,h::a=>V.say k t h++V.said t (k+1) a
structure TownOk(V:Town)(q:Nat):Prop where
 dep:∀{S T:R.St}{d j:Nat}{h:V.H},V.ok S d j h->(∀z∈V.adr j,∀o,S.get z=Φ o->T.get z=Φ o)->V.ok T d j h
 has:∀{S:R.St}{d j:Nat}{h:V.H},V.ok S d j h->∀z∈V.adr j,∃o,S.get z=Φ o
 say:∀{S:R.St}{d j:Nat}{h:V.H}(t:Int)(n:Nat),V.tt t->(∀l∈S.lk,l<S.len)->j<V.m->V.ok S d j h->∃c fs f,S.get (V.who j)=Φ (.ins c fs)/\saT.lookup c=Φ f/\fs.lookup ("say":PySem.Str)=Ψ/\
  W (appW (callF prog (n+q)) f [.ref (V.who j),.int t] S) λx T=>∃l,x=.ref l/\S.len<=l/\Mv [] S T/\T.get l=Φ (.lst ((V.say j t h).map rD))
 slt:∀(j:Nat)(t:Int)(h:V.H),∀r∈V.say j t h,V.lt (r.p,r.w)
 wa:∀j,V.who j∈V.adr j
 flt:∀x,V.lt x->∀N,flat N x.2=Γ
 hear:∀{S:R.St}{d j b:Nat}{h:V.H}{B:List Bxl}(t:Int)(n:Nat),j<V.m->d<=40->V.ok S d j h->(∀z∈V.adr j,Fr S z)->S.get b=Φ (.lst (B.map bxD))->b∉V.adr j->B.length<=60->(∀x∈B,V.lt x)->
  ∃c fs f,S.get (V.who j)=Φ (.ins c fs)/\heT.lookup c=Φ f/\fs.lookup ("hear":PySem.Str)=Ψ/\
  W (appW (callF prog (n+q)) f [.ref (V.who j),.int t,.ref b] S) λx T=>x=.non/\Mv (V.adr j) S T/\V.ok T (d+1) j (V.hear j t h B)
 ord:∀(t:Int)(hs:List V.H),hs.length=V.m->((V.said t 0 hs).map key).Pairwise Lt3
 few:∀(t:Int)(hs:List V.H),hs.length=V.m->(V.said t 0 hs).length<=60
def Mv.lock{A:List Nat}{S T:R.St}{l:List Nat}(h:Mv A {S with lk:=l} T):Mv A S {T with lk:=S.lk}:=⟨h.frz,rfl,h.len,λm o a e=>h.old m o a e⟩
def zqQ{T:R.St}{l:List Nat}(h:T.lk=l):({T with lk:=l}:R.St)=T:=by subst h;rfl
def zgu{T:R.St}{l:Nat}{o u:MO}(a:Fr T l)(e:T.get l=Φ o):∃U,T.put l u=Φ U/\Mv [l] T U/\U.get l=Φ u:=by let⟨U,b,c,d,i,f,g⟩:=zfv (S:=T) (l:=l) u a.f a.k;exact⟨U,b,⟨c,d,by lia,λm x h e=>by rw[f m (by simpa using h)];exact e⟩,g (get_lt e)⟩
noncomputable abbrev Es(t:Int)(x:D)(l:Nat)(c d e f g:Option D):Ev:=[Φ (.int t),Φ x,Φ .non,Φ (.ref l),c,d,e,f,g]
abbrev sIn:CS:=.expr (.mt .append J3 #[.tup #[J0,J6,.ite (.cmp .Is J2 (.con D.non)) J7 (.ix (.ix J2 J4) J7),J8]]) .nil
def zoX{cf:CF}{t:Int}{x:D}{l:Nat}{c d:Option D}:∀(rs:List Row)(a:List D)(T:R.St)(e f g:Option D),T.get l=Φ (.lst a)->Fr T l->a.length+rs.length<=1000->
  W (zaM [6,7,8] (exS cf sIn) (rs.map rD) (Es t x l c d e f g) T) λi U=>(∃e f g,i=.nx (Es t x l c d e f g))/\U.get l=Φ (.lst (a++rs.map (leD t)))/\Mv [l] T U
 | [],a,T,e,f,g,h,b,j=>by show W (Out.ok (Fl.nx _) T) _;rw[W_ok];exact⟨⟨e,f,g,rfl⟩,by simpa using h,Mv.refl _ _⟩| r::rs,a,T,e,f,g,h,b,j=>by
  simp![Χ]at j;show W (Out.bind (exS cf sIn (Es t x l c d (Φ (pD r.p)) (Φ (.int r.to)) (Φ r.w)) T) _) _;rw[zab];refine wS_W _ ?_;left;exists h;left;change show 4<=16777216 by decide
  left;exists h;left;change by simp;lia
  left;let⟨U,m,k,n⟩:=zgu (u:=.lst (a++[leD t r])) b h;exists m;left;refine(zoX rs (a++[leD t r]) U _ _ _ n (b.mv k) (by simp;lia)).mono λi V o=>?_;let⟨p,q,s⟩:=o;exact⟨p,by rw[q,append_assoc];rfl,k.trans s⟩
abbrev sayC:CL:=.val (.meth "say" saT J5 #[J0])
def zpW{V:Town}{q:Nat}(X:TownOk V q){S:R.St}{n d j:Nat}{t:Int}{h:V.H}{x:D}{l:Nat}{c e f g:Option D}(tt:V.tt t)(b:∀l∈S.lk,l<S.len)(i:j<V.m)(o:V.ok S d j h) :
  W (evL (callF prog (n+q)) sayC (Es t x l c (Φ (.ref (V.who j))) e f g) S) λr T=>∃a,r=((V.say j t h).map rD,[a])/\S.len<=a/\Mv [] S T:=by
 let⟨B,C,k,m,p,s,w⟩:=X.say t n tt b i o;refine wL_W _ ?_;unfold sayC;left;exists zau m;left;exists p;left;change by rw[s];rfl
 left;refine zbo (w.mono λy T u=>?_);let⟨a,rfl,z,v,A⟩:=u;left;exists A;left;exact⟨_,rfl,z,v⟩
abbrev sOut:CS:=.forS [6,7,8] sayC sIn .nil
abbrev enW(V:Town):Nat->Nat->List D
 |_,0=>[]|k,c+1=>zhH (.int (k:Nat)) (.ref (V.who k))::enW V (k+1) c
abbrev whoL(V:Town):Nat->Nat->List D
 |_,0=>[]|k,c+1=>.ref (V.who k)::whoL V (k+1) c
def zmU{V:Town}{q:Nat}(X:TownOk V q){S:R.St}{n d j:Nat}{t:Int}{h:V.H}{x:D}{l:Nat}{e f g:Option D}{a:List D}(tt:V.tt t)(p:∀l∈S.lk,l<S.len)(s:j<V.m)(o:V.ok S d j h)(i:S.get l=Φ (.lst a))(k:Fr S l)(u:a.length+(V.say j t h).length<=1000) :
  W (exS (callF prog (n+q)) sOut (Es t x l (Φ (.int j)) (Φ (.ref (V.who j))) e f g) S) λm U=>(∃e f g,m=.nx (Es t x l (Φ (.int j)) (Φ (.ref (V.who j))) e f g))/\U.get l=Φ (.lst (a++(V.say j t h).map (leD t)))/\Mv [l] S U:=by
 unfold sOut;show W (Out.bind _ _) _;rw[zab];refine(zpW X (n:=n) tt p s o).mono λr T w=>?_;let⟨b,rfl,L,v⟩:=w;have y:l≠b:=by have:=get_lt i;lia
 rw[zab];unfold zbj;rw[zab];have z:({T with lk:=[b]++T.lk}:R.St).get l=Φ (.lst a):=v.old _ _ (by simp) i;have A:Fr ({T with lk:=[b]++T.lk}:R.St) l:=⟨by show T.frz.length<=l;rw[v.frz];exact k.f,by
  show(b::T.lk).contains l=Δ;rw[contains_cons,v.lk,k.k,Bool.or_false];simpa using y⟩
 refine(zoX (cf:=callF prog (n+q)) (V.say j t h) a _ e f g z A u).mono λm U B=>?_;let⟨⟨C,E,G,rfl⟩,I,J⟩:=B;rw[W_ok];show W (exS (callF prog (n+q)) .nil _ _) _;(conv=>lhs;whnf);rw[W_ok];refine⟨⟨C,E,G,rfl⟩,I,?_⟩;have c:=J.lock;exact(v.up (by simp)).trans c
def zgg{V:Town}{q:Nat}(X:TownOk V q){n d:Nat}{t:Int}{x:D}{l:Nat}(tt:V.tt t):∀(hs:List V.H)(k:Nat)(a:List D)(T:R.St)(c e f g z:Option D),(∀l∈T.lk,l<T.len)->k+hs.length<=V.m->
  (∀i h,hs[i]?=Φ h->V.ok T d (k+i) h/\l∉V.adr (k+i))->T.get l=Φ (.lst a)->Fr T l->a.length+(V.said t k hs).length<=1000->
  W (zaM [4,5] (exS (callF prog (n+q)) sOut) (enW V k hs.length) (Es t x l c e f g z) T) λb U=>(∃c d e f g,b=.nx (Es t x l c d e f g))/\U.get l=Φ (.lst (a++(V.said t k hs).map (leD t)))/\Mv [l] T U
 | [],k,a,T,c,e,f,g,z,_,_,_,m,p,r=>by show W (Out.ok (Fl.nx _) T) _;rw[W_ok];exact⟨⟨c,e,f,g,z,rfl⟩,by simpa[Town.said]using m,Mv.refl _ _⟩| h::hs,k,a,T,c,e,f,g,z,s,y,u,m,p,r=>by simp![Χ]at y;simp![Town.said,length_append]at r;let⟨A,Y⟩:=u 0 h rfl;show W (Out.bind (exS (callF prog (n+q)) sOut (Es t x l (Φ (.int k)) (Φ (.ref (V.who k))) f g z) T) _) _;rw[zab];refine(zmU X (n:=n) (j:=k) tt s (by lia) A m p (by lia)).mono λb U B=>?_;let⟨⟨e',f',g',rfl⟩,C,v⟩:=B;refine(zgg X (d:=d) tt hs (k+1) (a++(V.say k t h).map (leD t)) U _ _ _ _ _ (by rw[v.lk];exact λx E=>lt_of_lt_of_le (s x E) v.len) (by lia) (λi G e2=>?_) C (p.mv v) (by rw[length_append,length_map];lia)).mono λb W' I=>?_;let⟨J,w⟩:=u (i+1) G (by simpa using e2);rw[show k+1+i=k+(i+1) by lia];refine⟨X.dep J λz L o e=>v.old _ _ ?_ e,w⟩;simp![mem_singleton];intro M;exact w (M▸L);let⟨N,O,Q⟩:=I;exact⟨N,by rw[O,append_assoc,Town.said,map_append],v.trans Q⟩
def zl4(V:Town):∀(c k:Nat),(whoL V k c).mapIdx (λi d=>zhH (.int ((i+k:Nat):Int)) d)=enW V k c
 |0,_=>rfl| c+1,k=>by rw[whoL,List.mapIdx_cons,enW,<-zl4 V c (k+1),zero_add];congr 2;funext i d;rw[show i+1+k=i+(k+1) by lia]
def zkp:c_said_in.body=.asg 3 (.lst .nil) (.forS [4,5] (.enum J1) sOut (.ret J3 .nil)):=rfl
def zhp{V:Town}{q:Nat}(X:TownOk V q)(t:Int):∀(hs:List V.H)(k:Nat),∀r∈V.said t k hs,V.lt (r.p,r.w)
 | [],_,r,a=>by cases a
 |h::hs,k,r,a=>by rw[Town.said]at a;rcases mem_append.mp a with a|a;exact X.slt k t h r a;exact zhp X t hs (k+1) r a
def zjG{V:Town}{q:Nat}(X:TownOk V q)(N:Nat)(t:Int)(hs:List V.H)(k:Nat):flats N ((V.said t k hs).map (leD t))=Γ:=by rw[zaH];intro d b;let⟨r,c,rfl⟩:=mem_map.mp b;have:=X.flt _ (zhp X t hs k r c) N;unfold leD;rw[zcs];have a:=zhX N r.p;rw[zcs]at a;simp![flats,flat,a,Bool.true_and,Bool.and_true];exact this
def ziU{V:Town}{T:R.St}{th:Nat}(a:T.get th=Φ (.lst (whoL V 0 V.m))):zdn T (.ref th)=Φ (enW V 0 V.m,[th]):=by unfold zdn;dsimp only;rw[a];dsimp only;rw[<-zl4 V V.m 0];rfl
def zsx{V:Town}{q:Nat}(X:TownOk V q){S:R.St}{n d:Nat}{t:Int}{th:Nat}{hs:List V.H}(tt:V.tt t)(b:hs.length=V.m)(j:S.get th=Φ (.lst (whoL V 0 V.m)))(m:∀(i:Nat) h,hs[i]?=Φ h->V.ok S d i h) :
  app (callF prog (n+q+1)) 12 [.int t,.ref th,.non] S=.ok (.ref S.len) (S.push (.lst ((V.said t 0 hs).map (leD t)))):=by
 refine zvc (F:=c_said_in) rfl rfl ?_;rw[zkp];show W (Out.bind _ _) _;rw[zab];have e3:evE (callF prog (n+q)) (.lst .nil) (za5 c_said_in [.int t,.ref th,.non]) S.enter=.ok (.ref S.enter.len) (S.enter.push (.lst [])):=by rfl
 rw[e3,W_ok];have k:∀l o,S.get l=Φ o->(S.enter.push (.lst [])).get l=Φ o:=λl o e=>zae (by rw[zbe];exact e);have p:evL (callF prog (n+q)) (.enum J1) (Es t (.ref th) S.enter.len Ψ Ψ Ψ Ψ Ψ) (S.enter.push (.lst []))=.ok (enW V 0 V.m,[th]) (S.enter.push (.lst [])):=by show Out.bind (lift (S.enter.push (.lst [])) (Φ (D.ref th))) _=_;rw[zcW,zas,ziU (k _ _ j)];rfl
 refine zdD (δ:=Es t (.ref th) S.enter.len Ψ Ψ Ψ Ψ Ψ) p ?_;have E:=get_lt j;have s:Fr ({S.enter.push (.lst []) with lk:=[th]++(S.enter.push (.lst [])).lk}:R.St) S.enter.len:=⟨by show(S.frz++S.new).length<=_;rw[zd7,R.enter_len];exact le_refl _,by
  show([th]:List Nat).contains _=Δ;rw[R.enter_len];simp;lia⟩
 have u:=X.few t hs b;rw[<-b];refine(zgg X (n:=n) (d:=d) tt hs 0 [] {S.enter.push (.lst []) with lk:=[th]++(S.enter.push (.lst [])).lk} Ψ Ψ Ψ Ψ Ψ (λl w=>by
  have:l=th:=by simpa[St.enter,St.push]using w
  subst this;show _<(S.enter.push (.lst [])).len;rw[plen,R.enter_len];lia) (by lia) (λi h e2=>?_) (zal _ _) s (by simp;lia)).mono λG U x=>?_
 have o:=m i h e2;rw[zero_add];refine⟨X.dep o λz _ y e=>k _ _ e,λA=>?_⟩;let⟨y,e⟩:=X.has o _ A;have:=get_lt e;rw[R.enter_len]at this;lia;let⟨⟨c,d,e,f,g,rfl⟩,B,v⟩:=x;dsimp only;refine W.mono (wS_W (.ret J3 .nil) (Q:=λr T=>wFin S r T λa C=>a=.ref S.len/\C=S.push (.lst ((V.said t 0 hs).map (leD t)))) ?_) λr T z=>z;left;refine zdG (by rw[R.enter_len];exact le_refl _) (show({U with lk:=_}:R.St).get _=_ from B) (by rw[List.nil_append];exact zjG X _ _ _ _) ⟨rfl,by rw[List.nil_append]⟩
def zeT:∀p:List Int,zaD (p.map .int)=Φ p
 | []=>rfl| i::p=>by have:=zeT p;unfold zaD at this⊢;rw[Ν,Ϛ,this];rfl
def zqU(t:Int)(r:Row):zfL (leD t r)=Φ (key r):=by show(zaD (r.p.map .int)).map _=_;rw[zeT];rfl
def zlv(t:Int):∀rs:List Row,(rs.map (leD t)).mapM zfL=Φ (rs.map key)
 | []=>rfl|r::rs=>by rw[Ν,Ϛ,zqU,zlv t rs];rfl
def zhj{ks:List K3}(h:ks.Pairwise Lt3):ks.Nodup:=h.imp λ{a b} q e=>by subst e;exact zco _ q
def zh9:∀{ks:List K3}{ds:List D},ks.Nodup->ks.length=ds.length->(ks.map λk=>((ks.zip ds).lookup k).getD .non)=ds
 | [],[],_,_=>rfl| k::ks,d::ds,a,b=>by
  rw[nodup_cons]at a;have c:=zh9 (ks:=ks) (ds:=ds) a.2 (by simpa using b);rw[Ν,List.zip_cons_cons,Ϣ,beq_self_eq_true];refine congrArg (d::·) (Eq.trans (Τ λx e=>?_) c);have:(x==k)=Δ:=by rw[beq_eq_false_iff_ne];intro z;exact a.1 (z▸e)
  rw[Ϣ,this]
def zmF{t:Int}{rs:List Row}(as:(rs.map key).Pairwise Lt3):srtD (rs.map (leD t)) (rs.map key)=rs.map (leD t):=by have a:=zhj as;have e:zjf (rs.map key)=rs.map key:=zcC (zch _) (zb4 a) as;unfold srtD;rw[e];exact zh9 a (by rw[length_map,length_map])
def zlm{T:R.St}{l:Nat}{t:Int}{rs:List Row}(h:T.get l=Φ (.lst (rs.map (leD t)))):zgH T (.ref l)=Φ (rs.map (leD t),rs.map key):=by unfold zgH;dsimp only;rw[h];dsimp only;rw[zlv];rfl
structure Kn(N:Nat)(S T:R.St):Prop where
 frz:T.frz=S.frz
 lk:T.lk=S.lk
 len:S.len<=T.len
 old:∀l o,l<N->S.get l=Φ o->T.get l=Φ o
def Kn.refl(N:Nat)(S:R.St):Kn N S S:=⟨rfl,rfl,le_refl _,λ_ _ _ h=>h⟩
def Kn.trans{N:Nat}{S T U:R.St}(a:Kn N S T)(b:Kn N T U):Kn N S U:=⟨b.frz.trans a.frz,b.lk.trans a.lk,le_trans a.len b.len,λl o h e=>b.old l o h (a.old l o h e)⟩
def Kn.of{N:Nat}{A:List Nat}{S T:R.St}(v:Mv A S T)(h:∀a∈A,N<=a):Kn N S T:=⟨v.frz,v.lk,v.len,λl o b e=>v.old l o (λz=>by have:=h l z;lia) e⟩
abbrev box(Ls:List Row)(o:Int):List Bxl:=(Ls.filter λx=>decide (x.to=o)).map λx=>(x.p,x.w)
def zct(Ls:List Row)(x:Row)(o:Int):box (Ls++[x]) o=if x.to=o then box Ls o++[(x.p,x.w)] else box Ls o:=by unfold box;rw[List.filter_append,map_append];by_cases h:x.to=o<;>simp[h]
def zrt(Ls:List Row)(o:Int):(box Ls o).length<=Ls.length:=by unfold box;rw[length_map];exact ϛ _ _
def zrs{Ls:List Row}{o:Int}{x:Bxl}(h:x∈box Ls o):∃r∈Ls,x=(r.p,r.w):=by let⟨r,a,rfl⟩:=mem_map.mp h;exact⟨r,(mem_filter.mp a).1,rfl⟩
structure Bx(N:Nat)(T:R.St)(bx:Nat)(Ls:List Row)(kvs:List (Int×D)):Prop where
 at_:T.get bx=Φ (.dic kvs)
 fr:Fr T bx
 nw:N<=bx
 no_:∀o,valI kvs o=Ψ->box Ls o=[]
 so_:∀o d,valI kvs o=Φ d->∃b,d=.ref b/\N<=b/\Fr T b/\T.get b=Φ (.lst ((box Ls o).map bxD))
 inj:∀o o' b,valI kvs o=Φ (.ref b)->valI kvs o'=Φ (.ref b)->o=o'
 len:kvs.length<=Ls.length
def zff(kvs:List (Int×D))(k j:Int)(v:D):valI (putI kvs k v) j=if j=k then Φ v else valI kvs j:=by
 induction kvs with
 |nil=>by_cases c:j=k;subst c;simp[putI,valI];have b:¬k=j:=λz=>c z.symm;simp[putI,valI,c,b]| cons a r f=>
  let⟨i,d⟩:=a;unfold putI;by_cases e:i=k;subst e;rw[if_pos rfl];by_cases c:j=i;subst c;simp[valI];have b:¬i=j:=λz=>c z.symm;simp[valI,c,b];rw[if_neg e];by_cases c:i=j;subst c;simp[valI,e];have g:valI ((i,d)::putI r k v) j=valI (putI r k v) j:=by simp[valI,c]
  have h:valI ((i,d)::r) j=valI r j:=by simp[valI,c]
  rw[g,h,f]
def zm9(kvs:List (Int×D))(k:Int)(v:D):(putI kvs k v).length<=kvs.length+1:=by induction kvs with|nil=>simp[putI]| cons a r b=>let⟨i,d⟩:=a;unfold putI;split;simp;simp;omega
noncomputable abbrev Ed(t:Int)(x y:D)(d:Nat)(a b c:Option D):Ev:=[Φ (.int t),Φ x,Φ y,Φ (.ref d),a,b,c]
abbrev dIn:CS:=.expr (.mt .append (.dsetI J3 (.ix J4 Y2) (.lst .nil)) #[.tup #[.ix J4 Y1,.ix J4 Y3]]) .nil
def zlK{T:R.St}{l:Nat}{kvs:List (Int×D)}(h:T.get l=Φ (.dic kvs)):isDi T (.ref l)=Γ:=by unfold isDi;dsimp only;rw[h]
def zf1{T:R.St}{l:Nat}{kvs:List (Int×D)}{o:Int}(h:T.get l=Φ (.dic kvs)):zg2 T (.ref l) (.int o)=Φ (valI kvs o):=by unfold zg2;dsimp only;rw[h];rfl
def zoa{cf:CF}{N:Nat}{T:R.St}{k:Nat}{Ls:List Row}{kvs:List (Int×D)}{x:Row}{t tt:Int}{u y:D}{b c:Option D}(B:Bx N T k Ls kvs)(hN:N<=T.len)(hl:Ls.length<=500)(Y:T.lk.contains T.len=Δ) :
  W (exS cf dIn (Ed t u y k (Φ (leD tt x)) b c) T) λf U=>f=.nx (Ed t u y k (Φ (leD tt x)) b c)/\(∃G,Bx N U k (Ls++[x]) G)/\Kn N T U:=by
 let⟨p,o,w⟩:=x;refine wS_W _ ?_;left;change zlK B.at_;left;exists show R.atI [D.int tt,pD p,.int o,w] 2=Φ (.int o) from rfl;left;change show 0<=16777216 by decide
 left;have lb:=get_lt B.at_;have hbl:(box Ls o).length<=Ls.length:=by unfold box;rw[length_map];exact ϛ _ _
 have I:=zae (o:=.lst []) B.at_;have hlen:=B.len;cases v:valI kvs o with
 |none=>
  have fT:Fr (T.push (.lst [])) k:=⟨B.fr.f,B.fr.k⟩;let⟨U,hU,E,gU⟩:=zgu (u:=.dic (putI kvs o (.ref T.len))) fT I;have es:zfZ (T.push (.lst [])) (.ref k) (.int o) (.ref T.len)=Φ (.ref T.len,U):=by unfold zfZ;rw[zf1 I,v];dsimp only;unfold dPut;dsimp only;rw[I];dsimp only[zed,bind_some];rw[if_pos (by lia),hU];rfl
  exists es;left;have nb:T.len≠k:=by lia
  have A:U.get T.len=Φ (.lst []):=E.old _ _ (by simpa using nb) (zal T (.lst []));have fL:Fr U T.len:=⟨by rw[E.frz];show T.frz.length<=T.len;unfold St.len;lia,by rw[E.lk];exact Y⟩;exists A;left;exists show R.atI [D.int tt,pD p,.int o,w] 1=Φ (pD p) from rfl;left;exists show R.atI [D.int tt,pD p,.int o,w] 3=Φ w from rfl;left;change show 2<=16777216 by decide
  left;exists A;left;change show 1<=16777216 by decide
  left;let⟨V,hV,m,gV⟩:=zgu (u:=.lst ([]++[bxD (p,w)])) fL A;exists hV;left;have s:=Mv.push [] T (.lst []);refine⟨rfl,⟨putI kvs o (.ref T.len),?_⟩,?_⟩;have J:∀l q,l≠k->l≠T.len->T.get l=Φ q->V.get l=Φ q:=λl q C j e=>m.old _ _ (by simpa using j) (E.old _ _ (by simpa using C) (s.old _ _ (by simp) e));have i:∀l,Fr T l->Fr V l:=λl h=>((h.mv s).mv E).mv m;refine⟨m.old _ _ (by simpa using nb.symm) gU,i _ B.fr,B.nw,λr g=>?_,λr d g=>?_,λo1 o2 b C j=>?_,?_⟩;rw[zff]at g;split at g;cases g;rename_i ne;rw[zct,if_neg (λz=>ne z.symm)];exact B.no_ r g;rw[zff]at g;split at g;rename_i L;cases g;subst L;refine⟨T.len,rfl,hN,fL.mv m,?_⟩;rw[zct,if_pos rfl,B.no_ _ v];exact gV;rename_i ne;let⟨b,rfl,j,h3,n⟩:=B.so_ r d g;refine⟨b,rfl,j,i _ h3,?_⟩;rw[zct,if_neg (λz=>ne z.symm)];refine J _ _ (λz=>?_) (by have:=get_lt n;lia) n;rw[z,B.at_]at n;cases n
  . rw[zff]at C j;split at C<;>split at j
    rename_i a1 a2;rw[a1,a2];cases C;let⟨b,e1,_,_,n⟩:=B.so_ o2 _ j;cases e1;have:=get_lt n;lia;cases j;let⟨b,e1,_,_,n⟩:=B.so_ o1 _ C;cases e1;have:=get_lt n;lia;exact B.inj o1 o2 b C j
  have:=zm9 kvs o (.ref T.len);rw[length_append];simp![Χ,Ϧ];lia;refine(Kn.of s (by simp)).trans ((Kn.of E ?_).trans (Kn.of m ?_));intro a M;rw[mem_singleton.mp M];exact B.nw;intro a M;rw[mem_singleton.mp M];exact hN
 |some d=>
  let⟨O,rfl,Q,fb,gb⟩:=B.so_ o d v;have s:=Mv.push [] T (.lst []);have es:zfZ (T.push (.lst [])) (.ref k) (.int o) (.ref T.len)=Φ (.ref O,T.push (.lst [])):=by unfold zfZ;rw[zf1 I,v]
  exists es;left;have A:(T.push (.lst [])).get O=Φ (.lst ((box Ls o).map bxD)):=zae gb;exists A;left;exists show R.atI [D.int tt,pD p,.int o,w] 1=Φ (pD p) from rfl;left;exists show R.atI [D.int tt,pD p,.int o,w] 3=Φ w from rfl;left;change show 2<=16777216 by decide
  left;exists A;left;change by rw[length_append,length_map];simp![Χ,Ϧ];lia
  let⟨V,hV,m,gV⟩:=zgu (u:=.lst ((box Ls o).map bxD++[bxD (p,w)])) (fb.mv s) A;exists hV;left;have i:∀l,Fr T l->Fr V l:=λl h=>(h.mv s).mv m;have nbx:k≠O:=λz=>by rw[<-z,B.at_]at gb;cases gb
  refine⟨rfl,⟨kvs,?_⟩,(Kn.of s (by simp)).trans (Kn.of m (by intro a M;rw[mem_singleton.mp M];exact Q))⟩;refine⟨m.old _ _ (by simpa using nbx) I,i _ B.fr,B.nw,λr g=>?_,λr d g=>?_,B.inj,by rw[length_append];lia⟩;rw[zct,if_neg (λz=>by rw[<-z]at g;rw[show(Row.mk p o w).to=o from rfl,v]at g;cases g)];exact B.no_ r g;by_cases L:o=r;subst L;rw[v]at g;cases g;refine⟨O,rfl,Q,i _ fb,?_⟩;rw[zct,if_pos rfl,map_append];exact gV;let⟨b,rfl,j,h3,n⟩:=B.so_ r d g;refine⟨b,rfl,j,i _ h3,?_⟩;rw[zct,if_neg (λz=>L z)];refine m.old _ _ (λz=>?_) (s.old _ _ (by simp) n);have z:b=O:=by simpa using z
  subst z;exact L (B.inj o r b v g)
def zi2{cf:CF}{N:Nat}{e:Nat}{t tt:Int}{u y:D}{b c:Option D}:∀(rest Ls:List Row)(kvs:List (Int×D))(T:R.St)(a:Option D),Bx N T e Ls kvs->N<=T.len->(∀l∈T.lk,l<N)->Ls.length+rest.length<=500->
  W (zaM [4] (exS cf dIn) (rest.map (leD tt)) (Ed t u y e a b c) T) λf U=>(∃a,f=.nx (Ed t u y e a b c))/\(∃d,Bx N U e (Ls++rest) d)/\Kn N T U
 | [],Ls,kvs,T,a,B,_,_,_=>by show W (Out.ok (Fl.nx _) T) _;rw[W_ok];exact⟨⟨a,rfl⟩,⟨kvs,by rw[Ϥ];exact B⟩,Kn.refl _ _⟩| x::rest,Ls,kvs,T,a,B,h,i,k=>by simp![Χ]at k;show W (Out.bind (exS cf dIn (Ed t u y e (Φ (leD tt x)) b c) T) _) _;rw[zab];refine(zoa B h (by lia) (zcp i h)).mono λf U m=>?_;let⟨rfl,⟨d,n⟩,v⟩:=m;refine(zi2 rest (Ls++[x]) d U _ n (le_trans h v.len) (by rw[v.lk];exact i) (by simp;lia)).mono λf V o=>?_;let⟨p,⟨g,j⟩,q⟩:=o;exact⟨p,⟨g,by rw[append_assoc]at j;exact j⟩,v.trans q⟩
abbrev zmc:CS:=.expr (.meth "hear" heT J6 #[J0,.dgetI J3 J5 (.lst .nil)]) .nil
structure Pk(V:Town)(S:R.St)(d j:Nat)(h:V.H):Prop where
 ok:V.ok S d j h
 fr:∀z∈V.adr j,Fr S z
def znR{V:Town}{q:Nat}(X:TownOk V q){S:R.St}{N n i d j:Nat}{t:Int}{h:V.H}{Ls:List Row}{kvs:List (Int×D)}{x y:D}{a:Option D}(A:j<V.m)(hd:d<=40)(o:Pk V S d j h)(ad:∀z∈V.adr j,z<N)(B:Bx N S i Ls kvs)(C:N<=S.len)(hl:Ls.length<=60)(E:∀r∈Ls,V.lt (r.p,r.w)) :
  W (exS (callF prog (n+q)) zmc (Ed t x y i a (Φ (.int j)) (Φ (.ref (V.who j)))) S) λf U=>f=.nx (Ed t x y i a (Φ (.int j)) (Φ (.ref (V.who j))))/\Mv (V.adr j) S U/\Pk V U (d+1) j (V.hear j t h (box Ls j)):=by
 have l:=Mv.push [] S (.lst []);have G:∃g,(valI kvs j).getD (.ref S.len)=.ref g/\(S.push (.lst [])).get g=Φ (.lst ((box Ls j).map bxD))/\N<=g:=by cases m:valI kvs j with|none=>exact⟨S.len,rfl,by rw[B.no_ _ m];exact zal _ _,C⟩| some d=>let⟨b,rfl,I,_,J⟩:=B.so_ _ _ m;exact⟨b,rfl,zae J,I⟩
 let⟨g,L,M,nq⟩:=G;have O:=zae (o:=.lst []) B.at_;have Q:V.ok (S.push (.lst [])) d j h:=X.dep o.ok λz _ o e=>zae e;have bl:=zrt Ls j;let⟨c,fs,k,Y,g2,g3,w⟩:=X.hear (S:=S.push (.lst [])) (b:=g) t n A hd Q (λz hz=>(o.fr z hz).mv l) M (λhm=>by have:=ad _ hm;lia) (by lia) (λx hx=>by let⟨r,hr,rfl⟩:=zrs hx;exact E r hr);let⟨o0,p⟩:=X.has o.ok _ (X.wa j);have s:=zae (o:=.lst []) p;rw[Y]at s;cases s;refine wS_W _ ?_;left;exists zau p;left;exists g2;left;change by rw[g3];rfl
 left;change zlK B.at_;left;change show 0<=16777216 by decide
 left;exists zf1 O;rw[L];left;refine zbo (w.mono λu T hT=>?_);let⟨_,v,z⟩:=hT;left;exact⟨rfl,(l.up (by simp)).trans v,z,λy hy=>((o.fr y hy).mv l).mv v⟩
def Bx.mv{N:Nat}{T U:R.St}{a:Nat}{Ls:List Row}{kvs:List (Int×D)}{A:List Nat}(B:Bx N T a Ls kvs)(v:Mv A T U)(h:∀x∈A,x<N):Bx N U a Ls kvs:=⟨v.old _ _ (λz=>by have:=h _ z;have:=B.nw;lia) B.at_,B.fr.mv v,B.nw,B.no_,λo d e=>let ⟨b,e1,e2,e3,e4⟩:=B.so_ o d e;⟨b,e1,e2,e3.mv v,v.old _ _ (λz=>by have:=h _ z;lia) e4⟩,B.inj,B.len⟩
abbrev adrF(V:Town):Nat->Nat->List Nat
 |_,0=>[]|k,c+1=>V.adr k++adrF V (k+1) c
def zfH(V:Town){z:Nat}:∀(c k:Nat),z∈adrF V k c->∃i,k<=i/\i<k+c/\z∈V.adr i
 |0,_,h=>by cases h
 |c+1,k,h=>by rw[adrF]at h;rcases mem_append.mp h with h|h;exact⟨k,le_refl _,by lia,h⟩;let⟨i,b,d,a⟩:=zfH V c (k+1) h;exact⟨i,by lia,by lia,a⟩
abbrev Dj(V:Town):Prop:=∀i j,i<V.m->j<V.m->i≠j->∀z∈V.adr i,z∉V.adr j
abbrev zbt(V:Town)(t:Int)(Ls:List Row):Nat->List V.H->List V.H
 |_,[]=>[]|k,h::a=>V.hear k t h (box Ls (k:Nat))::zbt V t Ls (k+1) a
def Pk.away{V:Town}{q:Nat}(X:TownOk V q){S T:R.St}{d j:Nat}{h:V.H}{A:List Nat}(o:Pk V S d j h)(v:Mv A S T)(n:∀z∈V.adr j,z∉A):Pk V T d j h:=⟨X.dep o.ok λz a o e=>v.old _ _ (n z a) e,λz a=>(o.fr z a).mv v⟩
def zgR{V:Town}{q:Nat}(X:TownOk V q){N n m d:Nat}{t:Int}{Ls:List Row}{kvs:List (Int×D)}{x y:D}{a:Option D}(hd:d<=40)(o:Dj V)(s:Ls.length<=60)(u:∀r∈Ls,V.lt (r.p,r.w))(ad:∀i,i<V.m->∀z∈V.adr i,z<N):∀(hs:List V.H)(k:Nat)(T:R.St)(b c:Option D),k+hs.length<=V.m->Bx N T m Ls kvs->N<=T.len->
  (∀i h,hs[i]?=Φ h->Pk V T d (k+i) h)->
  W (zaM [5,6] (exS (callF prog (n+q)) zmc) (enW V k hs.length) (Ed t x y m a b c) T) λf U=>(∃b c,f=.nx (Ed t x y m a b c))/\Mv (adrF V k hs.length) T U/\∀i h,(zbt V t Ls k hs)[i]?=Φ h->Pk V U (d+1) (k+i) h
 | [],k,T,b,c,_,_,_,_=>by show W (Out.ok (Fl.nx _) T) _;rw[W_ok];exact⟨⟨b,c,rfl⟩,Mv.refl _ _,λi h e=>by simp[zbt]at e⟩| h::hs,k,T,b,c,E,B,A,C=>by
  simp![Χ]at E;have G:Pk V T d k h:=C 0 h rfl;have l:k<V.m:=by lia
  show W (Out.bind (exS (callF prog (n+q)) zmc (Ed t x y m a (Φ (.int k)) (Φ (.ref (V.who k)))) T) _) _;rw[zab];refine(znR X (n:=n) (t:=t) l hd G (ad k l) B A s u).mono λf U I=>?_;let⟨rfl,v,J⟩:=I;refine(zgR X hd o s u ad hs (k+1) U _ _ (by lia) (B.mv v (ad k l)) (le_trans A v.len) (λi g e2=>?_)).mono λf W' L=>?_;have M:=C (i+1) g (by simpa using e2);have il:=(Α.mp e2).1;rw[show k+1+i=k+(i+1) by lia];exact M.away X v λz j p=>o (k+(i+1)) k (by lia) l (by lia) z j p;let⟨O,w,Q⟩:=L;refine⟨O,(v.up (λz j=>mem_append_left _ j)).trans (w.up (λz j=>mem_append_right _ j)),λi g e1=>?_⟩;cases i with| zero=>cases e1;refine J.away X w λz j p=>?_;let⟨i,a1,a2,Y⟩:=zfH V _ _ p;exact o k i l (by lia) (by lia) z j Y| succ i=>have:=Q i g (by simpa[zbt]using e1);rw[show k+1+i=k+(i+1) by lia]at this;exact this
def ztg{L:List Nat}{N b:Nat}(h:∀l∈L,l<N)(a:N<=b):L.contains b=Δ:=by rw[Bool.eq_false_iff];intro z;have:=h _ (List.contains_iff_mem.mp z);lia
def Bx.relk{N:Nat}{T:R.St}{a:Nat}{Ls:List Row}{kvs:List (Int×D)}{L:List Nat}(B:Bx N T a Ls kvs)(h:∀l∈L,l<N):Bx N ({T with lk:=L}:R.St) a Ls kvs:=⟨B.at_,⟨B.fr.f,ztg h B.nw⟩,B.nw,B.no_,λo d e=>let ⟨b,e1,e2,e3,e4⟩:=B.so_ o d e;⟨b,e1,e2,⟨e3.f,ztg h e2⟩,e4⟩,B.inj,B.len⟩
def zgZ:c_deliver.body=.asg 3 .dnew (.forS [4] (.val J2) dIn (.forS [5,6] (.enum J1) zmc .nil)):=rfl
def zku{V:Town}{q:Nat}(X:TownOk V q){S:R.St}{n d:Nat}{t tt:Int}{th sd:Nat}{hs:List V.H}{Ls:List Row}(hh:hs.length=V.m)(hd:d<=40)(dj:Dj V)(hl:Ls.length<=60)(lt:∀r∈Ls,V.lt (r.p,r.w))(hg:S.get th=Φ (.lst (whoL V 0 V.m)))(hsd:S.get sd=Φ (.lst (Ls.map (leD tt))))(hk:∀l∈S.lk,l<S.len)
  (h1:∀(i:Nat) h,hs[i]?=Φ h->Pk V S d i h) (nt:∀i,i<V.m->th∉V.adr i) :
  W (appW (callF prog (n+q+1)) 13 [.int t,.ref th,.ref sd] S) λx U=>x=.non/\U.frz=S.frz/\U.lk=S.lk/\S.len<=U.len/\(∀l o,l∉adrF V 0 V.m->S.get l=Φ o->U.get l=Φ o)/\∀(i:Nat) h,(zbt V t Ls 0 hs)[i]?=Φ h->Pk V U (d+1) i h:=by
 refine zbx (F:=c_deliver) rfl rfl ?_;rw[zgZ];show W (Out.bind _ _) _;rw[zab];have e0:evE (callF prog (n+q)) .dnew (za5 c_deliver [.int t,.ref th,.ref sd]) S=.ok (.ref S.len) (S.push (.dic [])):=by (conv=>lhs;whnf)
 rw[e0,W_ok];have up:∀l o,S.get l=Φ o->(S.push (.dic [])).get l=Φ o:=λl o e=>zae e;have e1:evL (callF prog (n+q)) (.val J2) (Ed t (.ref th) (.ref sd) S.len Ψ Ψ Ψ) (S.push (.dic []))=.ok (Ls.map (leD tt),[sd]) (S.push (.dic [])):=by show Out.bind (lift (S.push (.dic [])) (Φ (D.ref sd))) _=_;rw[zcW,zas];unfold zbh;dsimp only;rw[up _ _ hsd];rfl
 refine zdD (δ:=Ed t (.ref th) (.ref sd) S.len Ψ Ψ Ψ) e1 ?_;have lsd:=get_lt hsd;have lth:=get_lt hg;have fr0:S.frz.length<=S.len:=by unfold St.len;lia
 have ad:∀i,i<V.m->∀z∈V.adr i,z<S.len:=λi hi z hz=>by let⟨o,e⟩:=X.has (h1 i hs[i] (by simp[hh,hi])).ok z hz;exact get_lt e
 have B0:Bx S.len ({S.push (.dic []) with lk:=[sd]++(S.push (.dic [])).lk}:R.St) S.len [] []:=by refine⟨zal _ _,⟨fr0,?_⟩,le_refl _,λo _=>rfl,(λo d e=>by exact nS e),(λo o' b e=>by exact nS e),le_refl _⟩;show(sd::S.lk).contains S.len=Δ;rw[contains_cons,zcp hk (le_refl _),Bool.or_false];simp;lia
 refine(zi2 (cf:=callF prog (n+q)) (t:=t) (tt:=tt) (u:=.ref th) (y:=.ref sd) (b:=Ψ) (c:=Ψ) Ls [] [] _ Ψ B0 (by show S.len<=(S.push (.dic [])).len;rw[plen];lia) (by
  intro l hl;rcases mem_cons.mp (show l∈sd::S.lk from hl) with rfl|hl;exact lsd;exact hk l hl) (by simp;lia)).mono λf T hT=>?_
 let⟨⟨a,rfl⟩,⟨kvs,B⟩,kn⟩:=hT;rw[List.nil_append]at B;show W (exS (callF prog (n+q)) (.forS [5,6] (.enum J1) zmc .nil) (Ed t (.ref th) (.ref sd) S.len a Ψ Ψ) {T with lk:=S.lk}) _;have old:∀l o,S.get l=Φ o->({T with lk:=S.lk}:R.St).get l=Φ o:=λl o e=>kn.old l o (get_lt e) (up l o e);have el:evL (callF prog (n+q)) (.enum J1) (Ed t (.ref th) (.ref sd) S.len a Ψ Ψ) {T with lk:=S.lk}=.ok (enW V 0 V.m,[th]) {T with lk:=S.lk}:=by show Out.bind (lift ({T with lk:=S.lk}:R.St) (Φ (D.ref th))) _=_;rw[zcW,zas,ziU (old _ _ hg)];rfl
 refine zdD el ?_;have hk2:∀l∈th::S.lk,l<S.len:=λl hl=>by rcases mem_cons.mp hl with rfl|hl;exact lth;exact hk l hl
 have lenT : S.len ≤ T.len := by have := kn.len; have e : S.len + 1 ≤ T.len := by rw [← plen S (.dic [])]; exact this
                                 lia
 rw[<-hh];refine(zgR X (n:=n) (d:=d) (t:=t) (x:=.ref th) (y:=.ref sd) (a:=a) hd dj hl lt ad hs 0 ({T with lk:=th::S.lk}:R.St) Ψ Ψ (by lia) (B.relk hk2) lenT (λi h e2=>?_)).mono λf U hU=>?_;have o:=h1 i h e2;have il:=(Α.mp e2).1;rw[zero_add];refine⟨X.dep o.ok λz _ o' e=>old _ _ e,λz hz=>⟨by show T.frz.length<=z;rw[show T.frz=S.frz from kn.frz];exact(o.fr z hz).f,?_⟩⟩;show(th::S.lk).contains z=Δ;rw[contains_cons,(o.fr z hz).k,Bool.or_false];have:z≠th:=λe=>nt i (by lia) (e▸hz);simpa using this;let⟨⟨b,c,rfl⟩,v,hP⟩:=hU;dsimp only;(conv=>lhs;whnf);rw[W_ok];dsimp only;refine⟨rfl,v.frz.trans kn.frz,rfl,le_trans lenT v.len,λl o hl e=>v.old l o (by first|exact hl|(rw[hh];exact hl)) (old l o e),λi h e=>?_⟩;have z:=hP i h e;rw[zero_add]at z;have il:=(Α.mp e).1;have il2:i<hs.length:=by
  have:∀(hs:List V.H)(k:Nat),(zbt V t Ls k hs).length=hs.length:=λhs=>by induction hs with|nil=>intro k;rfl|cons a r ih=>intro k;simp[zbt,ih]
  rw[this]at il;exact il
 exact⟨X.dep z.ok λ_ _ _ e=>e,λy hy=>⟨(z.fr y hy).f,by
  have:=(h1 i hs[i] (by simp[il2])).fr y hy;exact this.k⟩⟩
abbrev rB:CS:=.asg 5 (.srtK (.call 12 0 #[J4,J0,J2])) (.expr (.callW 13 0 #[J4,J0,J5]) (.expr (.extv J3 J5) .nil))
def zmY:c_run.body=.asg 3 (.lst .nil) (.forS [4] (.rng2 Y1 (.bin .Add J1 Y1)) rB (.ret J3 .nil)):=rfl
def zt7{P:List Fn}{F:Fn}{f n:Nat}{ds:List D}{S:R.St}{Q:D->R.St->Prop}(h:P[f]?=Φ F)(a:ds.length=F.np)(b:3<=n)(w:W (exS (callF P n) F.body (za5 F ds) S) λr T=>match r with|.nx _=>Q .non T|.rt d=>Q d T)(c:F.prim=Φ .lam:=by rfl):W (appW (callF P (n+1)) f ds S) Q:=by unfold appW;simp![callF,h,a,c,b,if_true,zab];refine w.mono λr T q=>?_;cases r<;>exact q
abbrev rnd(V:Town)(t:Int)(hs:List V.H):List V.H:=zbt V t (V.said t 0 hs) 0 hs
def zcr(V:Town)(t:Int)(Ls:List Row):∀(hs:List V.H)(k:Nat),(zbt V t Ls k hs).length=hs.length
 | [],_=>rfl|_::hs,k=>by rw[zbt,Χ,Χ,zcr V t Ls hs (k+1)]
structure Tn(V:Town)(T:R.St)(d th lt:Nat)(hs:List V.H)(acc:List D):Prop where
 lh:hs.length=V.m
 hg:T.get th=Φ (.lst (whoL V 0 V.m))
 p1:∀(i:Nat) h,hs[i]?=Φ h->Pk V T d i h
 nt:∀i,i<V.m->th∉V.adr i
 nl:∀i,i<V.m->lt∉V.adr i
 ne:th≠lt
 hk:∀l∈T.lk,l<T.len
 gl:T.get lt=Φ (.lst acc)
 fl:Fr T lt
noncomputable abbrev Er(th:Nat)(rr:Int)(c:Nat)(a b:Option D):Ev:=[Φ (.ref th),Φ (.int rr),Φ .non,Φ (.ref c),a,b]
def zmX{V:Town}{q:Nat}(X:TownOk V q){T:R.St}{n d:Nat}{t rr:Int}{th k:Nat}{hs:List V.H}{a:List D}{b:Option D}(tt:V.tt t)(Y:Tn V T d th k hs a)(dj:Dj V)(hd:d<=40)(ha:a.length<=10000) :
  W (exS (callF prog (n+q+2)) rB (Er th rr k (Φ (.int t)) b) T) λf U=>(∃b,f=.nx (Er th rr k (Φ (.int t)) b))/\Tn V U (d+1) th k (rnd V t hs) (a++(V.said t 0 hs).map (leD t))/\U.lk=T.lk/\U.frz=T.frz/\T.len<=U.len/\∀l o,l≠k->(∀i,i<V.m->l∉V.adr i)->T.get l=Φ o->U.get l=Φ o:=by
 have L:=X.few t hs Y.lh;have as:=X.ord t hs Y.lh;have v:=zsx X (n:=n+1) (d:=d) (t:=t) tt Y.lh Y.hg (λi h e=>(Y.p1 i h e).ok);rw[show n+1+q+1=n+q+2 by lia]at v;have nd:=zhj as;generalize w:V.said t 0 hs=c at *;refine wS_W _ ?_;left;specialize v;left;exists zlm (zal _ _);left;change⟨by rw[length_map];lia,nd⟩;rw[show srtD (c.map (leD t),c.map key).1 (c.map (leD t),c.map key).2=c.map (leD t) from zmF as];left;change by rw[length_map];lia
 left;generalize y:(T.push (.lst (c.map (leD t)))).push (.lst (c.map (leD t)))=M;have j:Mv [] T M:=by rw[<-y];exact(Mv.push [] _ _).trans (Mv.push [] _ _)
 have A:M.get (T.push (.lst (c.map (leD t)))).len=Φ (.lst (c.map (leD t))):=by rw[<-y];exact zal _ _
 generalize B:(T.push (.lst (c.map (leD t)))).len=C at *;have lsd:T.len<=C:=by rw[<-B,plen];lia
 have ltl:=get_lt Y.gl;have lth:=get_lt Y.hg;have dl:=zku X (S:=M) (n:=n+1) (d:=d) (t:=t) (tt:=t) (Ls:=c) Y.lh hd dj L (by rw[<-w];exact zhp X t hs 0) (j.old _ _ (by simp) Y.hg) A (by rw[j.lk];exact λl E=>lt_of_lt_of_le (Y.hk l E) j.len) (λi h e=>(Y.p1 i h e).away X j (by simp)) Y.nt;rw[show n+1+q+1=n+q+2 by lia]at dl;refine zbo (dl.mono λx U hU=>?_);let⟨_,uf,N,ul,J,up⟩:=hU;have m:∀l,(∀i,i<V.m->l∉V.adr i)->l∉adrF V 0 V.m:=λl E G=>by let⟨i,_,h2,h3⟩:=zfH V _ _ G;exact E i (by lia) h3
 have p:∀i,i<V.m->∀z∈V.adr i,z<T.len:=λi O z Q=>by
  have hil:i<hs.length:=by rw[Y.lh];exact O
  let⟨o,e⟩:=X.has (Y.p1 i hs[i] (by simp[hil])).ok z Q;exact get_lt e
 have s:U.get k=Φ (.lst a):=J _ _ (m k Y.nl) (j.old _ _ (by simp) Y.gl);have gs3:U.get C=Φ (.lst (c.map (leD t))):=J _ _ (m C λi O G=>by have:=p i O C G;lia) A;have I:Fr U k:=⟨by rw[uf,j.frz];exact Y.fl.f,by rw[N,j.lk];exact Y.fl.k⟩;left;exists s;left;exists show lsts U (.ref k) (.ref C)=Φ (k,a,c.map (leD t)) by unfold lsts;dsimp only;rw[s,gs3]
 left;change show(a++c.map (leD t)).length<=16777216 by rw[length_append,length_map];lia
 let⟨U2,hV,r,gV⟩:=zgu (u:=.lst (a++c.map (leD t))) I s;exists hV;left;refine⟨⟨_,rfl⟩,⟨by unfold rnd;rw[zcr];exact Y.lh,r.old _ _ (by simpa using Y.ne) (J _ _ (m th Y.nt) (j.old _ _ (by simp) Y.hg)),λi g e=>?_,Y.nt,Y.nl,Y.ne,?_,gV,I.mv r⟩,by rw[r.lk,N,j.lk],by rw[r.frz,uf,j.frz],le_trans j.len (le_trans ul r.len),λl o h1 h2 e=>r.old _ _ (by simpa using h1) (J _ _ (m l h2) (j.old _ _ (by simp) e))⟩;have il:=(Α.mp e).1;unfold rnd at e il;rw[zcr,Y.lh]at il;rw[w]at e;exact(up i g e).away X r λz Q G=>Y.nl i il (by rw[<-mem_singleton.mp G];exact Q);rw[r.lk,N,j.lk];exact λl E=>lt_of_lt_of_le (Y.hk l E) (le_trans j.len (le_trans ul r.len))
abbrev rnds(V:Town):Nat->Nat->List V.H->List V.H
 |_,0,a=>a|t,c+1,a=>rnds V (t+1) c (rnd V t a)
abbrev lets(V:Town):Nat->Nat->List V.H->List D
 |_,0,_=>[]|t,c+1,a=>(V.said t 0 a).map (leD t)++lets V (t+1) c (rnd V t a)
abbrev zj6:Nat->Nat->List D
 |_,0=>[]|t,c+1=>.int (t:Nat)::zj6 (t+1) c
def zin{V:Town}{q:Nat}(X:TownOk V q){n:Nat}{rr:Int}{th h:Nat}(j:Dj V):∀(c t:Nat)(hs:List V.H)(g:List D)(T:R.St)(a b:Option D)(d:Nat),(∀i:Nat,t<=i->i<t+c->V.tt (i:Nat))->Tn V T d th h hs g->d+c<=40->g.length+60*c<=10000->
  W (zaM [4] (exS (callF prog (n+q+2)) rB) (zj6 t c) (Er th rr h a b) T) λf U=>(∃a b,f=.nx (Er th rr h a b))/\Tn V U (d+c) th h (rnds V t c hs) (g++lets V t c hs)/\U.lk=T.lk/\U.frz=T.frz/\T.len<=U.len/\∀l o,l≠h->(∀i,i<V.m->l∉V.adr i)->T.get l=Φ o->U.get l=Φ o
 |0,t,hs,g,T,a,b,d,_,Y,_,_=>by show W (Out.ok (Fl.nx _) T) _;rw[W_ok];exact⟨⟨a,b,rfl⟩,by rw[lets,Ϥ];exact Y,rfl,rfl,le_refl _,λl o _ _ e=>e⟩| c+1,t,hs,g,T,a,b,d,tt,Y,E,G=>by show W (Out.bind (exS (callF prog (n+q+2)) rB (Er th rr h (Φ (.int (t:Nat))) b) T) _) _;rw[zab];have I:=X.few (t:Int) hs Y.lh;refine(zmX X (n:=n) (t:=(t:Int)) (tt t (le_refl _) (by lia)) Y j (by lia) (by lia)).mono λf U s=>?_;let⟨⟨J,rfl⟩,Z,k,m,u,v⟩:=s;refine(zin X j c (t+1) (rnd V t hs) (g++(V.said t 0 hs).map (leD t)) U _ _ (d+1) (λi k m=>tt i (by lia) (by lia)) Z (by lia) (by rw[length_append,length_map];lia)).mono λf L w=>?_;let⟨x,y,z,A,B,C⟩:=w;refine⟨x,?_,z.trans k,A.trans m,le_trans u B,λl o p r e=>C l o p r (v l o p r e)⟩;rw[lets,<-append_assoc,show d+(c+1)=d+1+c by lia];exact y
def zgd:∀(c t:Nat),(List.range c).map (λ(k:Nat)=>D.int ((t:Int)+k))=zj6 t c
 |0,_=>rfl| c+1,t=>by rw[List.range_succ_eq_map,Ν,map_map,zj6,<-zgd c (t+1)];congr 1;simp;intro a _;lia
def zut{V:Town}{q:Nat}(X:TownOk V q){S:R.St}{n c:Nat}{z:Int}{th:Nat}{hs:List V.H}(tt:∀i:Nat,1<=i->i<1+c->V.tt (i:Nat))(dj:Dj V)(lh:hs.length=V.m)(hg:S.get th=Φ (.lst (whoL V 0 V.m)))(p1:∀(i:Nat) h,hs[i]?=Φ h->Pk V S 0 i h)(nt:∀i,i<V.m->th∉V.adr i)(hk:∀l∈S.lk,l<S.len)(hc:c<=40)(hz:z=(c:Nat))(h1q:1<=q) :
  W (appW (callF prog (n+q+3)) 11 [.ref th,.int z,.non] S) λx U=>x=.ref S.len/\Tn V U c th S.len (rnds V 1 c hs) (lets V 1 c hs)/\U.lk=S.lk/\U.frz=S.frz/\S.len<U.len/\∀l o,(∀i,i<V.m->l∉V.adr i)->S.get l=Φ o->U.get l=Φ o:=by
 refine zt7 (F:=c_run) rfl rfl (by lia) ?_;rw[zmY];show W (Out.bind _ _) _;rw[zab];have e0:evE (callF prog (n+q+2)) (.lst .nil) (za5 c_run [.ref th,.int z,.non]) S=.ok (.ref S.len) (S.push (.lst [])):=by rfl
 rw[e0,W_ok];show W (exS (callF prog (n+q+2)) (.forS [4] (.rng2 Y1 (.bin .Add J1 Y1)) rB (.ret J3 .nil)) (Er th z S.len Ψ Ψ) (S.push (.lst []))) _;have mP:=Mv.push [] S (.lst []);have el:evL (callF prog (n+q+2)) (.rng2 Y1 (.bin .Add J1 Y1)) (Er th z S.len Ψ Ψ) (S.push (.lst []))=.ok (zj6 1 c,[]) (S.push (.lst [])):=by generalize hδ:Er th z S.len Ψ Ψ=δ;refine W.eq (wL_W _ ?_);subst hδ;left;change⟨by decide,by decide,Int.le_trans (by decide) (show(0:Int)<=z+1 by lia),Int.lt_of_le_of_lt (show z+1<=41 by lia) (by decide)⟩;refine⟨?_,rfl⟩;rw[<-zgd c 1,show(z+1-1).toNat=c by lia];rfl
 generalize hδ:Er th z S.len Ψ Ψ=δ at el⊢;refine zdD el ?_;subst hδ;have Y:Tn V (S.push (.lst [])) 0 th S.len hs []:=by
  have lt_adr:∀i,i<V.m->∀z∈V.adr i,z<S.len:=λi hi z hz=>by
   have hil:i<hs.length:=by rw[lh];exact hi
   let⟨o,e⟩:=X.has (p1 i hs[i] (by simp[hil])).ok z hz;exact get_lt e
  have lth:=get_lt hg;exact⟨lh,zae hg,λi h e=>(p1 i h e).away X mP (by simp),nt,λi hi hm=>by have:=lt_adr i hi _ hm;lia,by lia,λl hl=>by have:=hk l hl;rw[plen];lia,zal _ _,⟨by show S.frz.length<=S.len;unfold St.len;lia,zcp hk (le_refl _)⟩⟩
 refine(zin X (n:=n) (rr:=z) dj c 1 hs [] _ Ψ Ψ 0 tt Y (by lia) (by simp;lia)).mono λf U hU=>?_;let⟨⟨a,b,rfl⟩,Z,h1,h2,h4,h3⟩:=hU;dsimp only;rw[List.nil_append,zero_add]at Z;have eU:({U with lk:=(S.push (.lst [])).lk}:R.St)=U:=zqQ (h1.trans rfl);rw[eU];refine wS_W _ ?_;left;exact⟨rfl,Z,h1,h2,by rw[plen]at h4;lia,λl o a1 e=>h3 l o (by have:=get_lt e;lia) a1 (zae e)⟩
def zaU{S T:R.St}{x:D}{f:PySem.Str}{v:D}(h:zbU S x f v=Φ T):T.len=S.len:=by unfold zbU at h;split at h;split at h;split at h;unfold St.put at h;split at h;exact nS h;split at h;exact nS h;cases h;simp[St.len];exact nS h;exact nS h;exact nS h
def zle{S:R.St}{n a c:Nat}{i m r:Int}(e:S.get a=Φ (.ins c []))(b:Fr S a):W (appW (callF prog (n+1)) 56 [.ref a,.int i,.int m,.int r] S) λd T=>d=.non/\Mv [a] S T/\T.len=S.len/\T.get a=Φ (.ins c [("number",.int i),("many",.int m),("rounds",.int r)]):=by refine zbx (F:=zeu) rfl rfl (wS_W _ ?_);let⟨t,h,g,o⟩:=za1 (f:="number") (v:=.int i) (gs:=[("number",.int i)]) e b (by simp) rfl;let⟨u,j,k,p⟩:=za1 (f:="many") (v:=.int m) (gs:=[("number",.int i),("many",.int m)]) o (b.mv g) (by simp) rfl;let⟨w,l,q,s⟩:=za1 (f:="rounds") (v:=.int r) (gs:=[("number",.int i),("many",.int m),("rounds",.int r)]) p ((b.mv g).mv k) (by simp) rfl;left;exists h;left;exists j;left;exists l;left;exact⟨rfl,(g.trans k).trans q,by rw[zaU l,zaU j,zaU h],s⟩
def zsB{S:R.St}{n a:Nat}{m b i s:Int}{w:Option Int}(e:S.get a=Φ (.ins 1 []))(q:Fr S a)(I:0<=b)(l:b<=5) :
  W (appW (callF prog (n+2)) 39 [.ref a,.int i,.int m,.int b,.int s,oD w] S) λd T=>d=.non/\Mv [a] S T/\T.len=S.len+1/\T.get a=Φ (hD m b i s w w 0 S.len)/\T.get S.len=Φ (.lst []):=by
 refine zbx (F:=zce) rfl rfl (wS_W _ ?_);left;specialize zil (n:=n) I l;left;refine zbo ((zle (n:=n) (r:=1+3*(b+1)) e q).mono λd T J=>?_);let⟨_,v,L,g⟩:=J;have f:=q.mv v;let⟨Y,t,c,M⟩:=za1 (f:="bound") (v:=.int b) (gs:=[("number",.int i),("many",.int m),("rounds",.int (1+3*(b+1))),("bound",.int b)]) g f (by simp) rfl;let⟨T2,u,h,N⟩:=za1 (f:="sender") (v:=.int s) (gs:=[("number",.int i),("many",.int m),("rounds",.int (1+3*(b+1))),("bound",.int b),("sender",.int s)]) M (f.mv c) (by simp) rfl;let⟨T3,x,k,O⟩:=za1 (f:="word") (v:=oD w) (gs:=[("number",.int i),("many",.int m),("rounds",.int (1+3*(b+1))),("bound",.int b),("sender",.int s),("word",oD w)]) N ((f.mv c).mv h) (by simp) rfl;let⟨T4,y,o,Q⟩:=za1 (f:="held") (v:=oD w) (gs:=[("number",.int i),("many",.int m),("rounds",.int (1+3*(b+1))),("bound",.int b),("sender",.int s),("word",oD w),("held",oD w)]) O (((f.mv c).mv h).mv k) (by simp) rfl;let⟨j,z,A,U⟩:=za1 (f:="backing") (v:=.int 0) (gs:=[("number",.int i),("many",.int m),("rounds",.int (1+3*(b+1))),("bound",.int b),("sender",.int s),("word",oD w),("held",oD w),("backing",.int 0)]) Q ((((f.mv c).mv h).mv k).mv o) (by simp) rfl;have p:j.len=S.len:=by rw[zaU z,zaU y,zaU x,zaU u,zaU t,L]
 have B:=Mv.push [a] j (.lst []);let⟨T6,C,E,G⟩:=za1 (S:=j.push (.lst [])) (f:="holdings") (v:=.ref j.len) (gs:=[("number",.int i),("many",.int m),("rounds",.int (1+3*(b+1))),("bound",.int b),("sender",.int s),("word",oD w),("held",oD w),("backing",.int 0),("holdings",.ref j.len)]) (zae U) ((((((f.mv c).mv h).mv k).mv o).mv A).mv B) (by simp) rfl;left;exists t;left;exists u;left;exists x;left;exists y;left;exists z;left;right;left;exists C;left;have lt:=get_lt e;refine⟨rfl,((((((v.trans c).trans h).trans k).trans o).trans A).trans B).trans E,by rw[zaU C,plen,p],by rw[p]at G;exact G,?_⟩;rw[<-p];exact E.old _ _ (by simp;lia) (zal _ _)
abbrev mkE:CE:=.mk 1 39 "KingHand" 0 #[J0,J1,J2,J3,.ite (.cmp .Eq J0 J3) J4 (.con D.non)]
abbrev wdO(s w i:Int):Option Int:=if i=s then Φ w else Ψ
noncomputable abbrev Eh(o:Option D)(m b s w:Int):Ev:=[o,Φ (.int m),Φ (.int b),Φ (.int s),Φ (.int w)]
def zth{T:R.St}{n:Nat}{m b s w i:Int}(j:0<=b)(f:b<=5)(k:∀l∈T.lk,l<T.len) :
  W (evE (callF prog (n+2)) mkE (Eh (Φ (.int i)) m b s w) T) λd U=>d=.ref T.len/\Mv [] T U/\U.len=T.len+2/\U.get T.len=Φ (hD m b i s (wdO s w i) (wdO s w i) 0 (T.len+1))/\U.get (T.len+1)=Φ (.lst []):=by
 have fin:∀o:Option Int,o=wdO s w i->wOut (appW (callF prog (n+2)) 39 [.ref T.len,.int i,.int m,.int b,.int s,oD o] (T.push (.ins 1 []))) λd a=>zaZ (zlH d=Γ) (D.ref T.len=.ref T.len/\Mv [] T a/\a.len=T.len+2/\a.get T.len=Φ (hD m b i s (wdO s w i) (wdO s w i) 0 (T.len+1))/\a.get (T.len+1)=Φ (.lst [])):=by rintro o rfl;refine zbo ((zsB (n:=n) (zal T (.ins 1 [])) ⟨by show T.frz.length<=T.len;unfold St.len;lia,zcp k (le_refl _)⟩ j f).mono λd U p=>?_);let⟨rfl,v,l,g,h⟩:=p;rw[plen]at g h l;refine wNeed_of rfl ⟨rfl,⟨v.frz,v.lk,by lia,λm o _ e=>v.old m o (by have:=get_lt e;simp;lia) (zae e)⟩,by lia,g,h⟩
 refine wE_W _ ?_;unfold mkE;left;refine zbJ (λc=>?_) (λc=>?_);left;exact fin (Φ w) (by unfold wdO;rw[if_pos c]);left;exact fin Ψ (by unfold wdO;rw[if_neg c])
structure Hs(U:R.St)(N k c:Nat)(m b s w:Int):Prop where
 a:∀i,i<c->U.get (N+2*i)=Φ (hD m b ((k+i:Nat):Int) s (wdO s w ((k+i:Nat):Int)) (wdO s w ((k+i:Nat):Int)) 0 (N+2*i+1))/\U.get (N+2*i+1)=Φ (.lst [])
abbrev refs(N:Nat):Nat->List D
 |0=>[]|c+1=>.ref N::refs (N+2) c
abbrev intD(k:Nat):Nat->List D
 |0=>[]|c+1=>.int (k:Nat)::intD (k+1) c
def zla{n:Nat}{m b s w:Int}(g:0<=b)(a:b<=5):∀(c k:Nat)(T:R.St)(o:Option D),(∀l∈T.lk,l<T.len)->
  W (zax [0] (evT (callF prog (n+2)) (.tst (.con (D.bl Γ)))) (evE (callF prog (n+2)) mkE) (intD k c) (Eh o m b s w) T) λds U=>ds=refs T.len c/\Mv [] T U/\U.len=T.len+2*c/\Hs U T.len k c m b s w
 |0,k,T,o,e=>by show W (Out.ok [] T) _;rw[W_ok];exact⟨rfl,Mv.refl _ _,rfl,⟨λi h=>by lia⟩⟩| c+1,k,T,o,e=>by rw[intD,zax];show W (Out.bind (Out.ok Γ T) _) _;rw[zas];show W (Out.bind (evE (callF prog (n+2)) mkE (Eh (Φ (.int (k:Nat))) m b s w) T) _) _;rw[zab];refine(zth (n:=n) g a e).mono λd U j=>?_;let⟨rfl,v,l,p,q⟩:=j;rw[zab];refine(zla g a c (k+1) U _ (by rw[v.lk,l];exact λx r=>by have:=e x r;lia)).mono λds y t=>?_;let⟨rfl,f,u,H⟩:=t;rw[W_ok];rw[l]at H u⊢;refine⟨rfl,v.trans f,by lia,⟨λi h=>?_⟩⟩;cases i with|zero=>exact⟨f.old _ _ (by simp) p,f.old _ _ (by simp) q⟩| succ i=>have:=H.a i (by lia);rw[show T.len+2+2*i=T.len+2*(i+1) by lia,show k+1+i=k+(i+1) by lia]at this;exact this
def ziN:∀(c k:Nat),(List.range c).map (λ(i:Nat)=>D.int ((i+k:Nat):Int))=intD k c
 |0,_=>rfl| c+1,k=>by rw[List.range_succ_eq_map,Ν,map_map,intD,<-ziN c (k+1),zero_add];congr 1;refine Τ λi _=>?_;simp![Function.comp];rw[show Nat.succ i+k=i+(k+1) by lia]
def zjH{N:Nat}:∀{c k:Nat},N<=k->0<c->flats N (refs k c)=Δ
 |c+1,k,h,_=>by simp![refs,flats,flat];simp;lia
def zfO{S T:R.St}{l:Nat}(c:T.frz=S.frz++S.new):(R.St.mk S.frz (S.new++T.new) S.lk).get l=T.get l:=by unfold St.get;dsimp only;rw[c];by_cases a:l<S.frz.length;rw[if_pos a,if_pos (by rw[length_append];omega),getElem?_append_left a];rw[if_neg a];by_cases b:l<S.frz.length+S.new.length;rw[if_pos (by rw[length_append];exact b),getElem?_append_left (by omega),getElem?_append_right (by omega)];rw[if_neg (by rw[length_append];exact b),getElem?_append_right (by omega),length_append];congr 1;omega
def ziK{S T:R.St}(a:T.frz=S.frz++S.new):(R.St.mk S.frz (S.new++T.new) S.lk).len=T.len:=by unfold St.len;dsimp only;rw[a,length_append,length_append];lia
def zly{S T:R.St}(v:Mv [] S.enter T):Mv [] S ⟨S.frz,S.new++T.new,S.lk⟩:=⟨rfl,rfl,by rw[ziK v.frz];have:=v.len;rw[R.enter_len]at this;exact this,λl o _ e=>by rw[zfO v.frz];exact v.old l o (by simp) (by rw[zbe];exact e)⟩
def zp4{S:R.St}{n m:Nat}{b s w:Int}(j:0<=b)(a:b<=5)(o:1<=m)(A:m<=7) :
  W (app (callF prog (n+3)) 14 [.int (m:Nat),.int b,.int s,.int w] S) λd U=>d=.ref (S.len+2*m)/\Mv [] S U/\U.get (S.len+2*m)=Φ (.lst (refs S.len m))/\Hs U S.len 0 m (m:Nat) b s w/\U.len=S.len+2*m+1:=by
 refine zf7 (F:=zds) rfl rfl ?_;left;change⟨by lia,by lia⟩;left;refine zat ?_;have e:(List.range ((m:Nat):Int).toNat).map (λ(k:Nat)=>D.int (k:Nat))=intD 0 m:=by rw[<-ziN m 0];rfl
 rw[e];refine(zla (n:=n) (b:=b) (s:=s) (w:=w) j a m 0 S.enter Ψ (λl p=>by cases p)).mono λB U q=>?_;let⟨rfl,v,l,H⟩:=q;have h:∀(c N:Nat),(refs N c).length=c:=λc=>by induction c with|zero=>intro N;rfl|succ c r=>intro N;rw[refs,Χ,r]
 change by rw[h];lia
 left;change by rw[h];lia
 rw[R.enter_len]at H l⊢;have t:Mv [] S.enter ({U with lk:=S.enter.lk}:R.St):=⟨v.frz,rfl,v.len,v.old⟩;have f:=t.trans (Mv.push [] _ (.lst (refs S.len m)));refine zgb (l:=U.len) (by rw[l];lia) (zal ({U with lk:=S.enter.lk}:R.St) (.lst (refs S.len m))) (zjH (le_refl _) o) ?_;have g:∀x,(R.St.mk S.frz (S.new++(({U with lk:=S.enter.lk}:R.St).push (.lst (refs S.len m))).new) S.lk).get x=(({U with lk:=S.enter.lk}:R.St).push (.lst (refs S.len m))).get x:=λx=>zfO f.frz;refine⟨by rw[l],zly f,?_,⟨λi u=>?_⟩,?_⟩;rw[g,<-l];exact zal ({U with lk:=S.enter.lk}:R.St) _;let⟨y,z⟩:=H.a i u;rw[g,g];exact⟨zae y,zae z⟩;rw[ziK f.frz,plen];show U.len+1=_;rw[l]
abbrev sD(m b:Int)(X Y:D):MO:=.ins 3 [("many",.int m),("bound",.int b),("liars",X),("lies",Y)]
def zqJ{n a:Nat}{S:R.St}{m b:Int}{x y X Y:D}(e:S.get a=Φ (.ins 3 []))(h:Fr S a)(p:1<=m)(q:m<=7)(r:0<=b)(s:b<=5)
  (t:∀T,Mv [a] S T->app (callF prog (n+5)) 19 [.int m,x] T=.ok X T) (u:∀T,Mv [a] S T->app (callF prog (n+5)) 20 [.int m,y] T=.ok Y T) :
  W (appW (callF prog (n+6)) 55 [.ref a,.int m,.int b,x,y] S) λd T=>d=.non/\Mv [a] S T/\T.len=S.len/\T.get a=Φ (sD m b X Y):=by
 refine zbx (F:=zbD) rfl rfl (wS_W _ ?_);left;specialize zkv (n:=n+3) p q;left;let⟨I,j,c,w⟩:=za1 (f:="many") (v:=.int m) (gs:=[("many",.int m)]) e h (by simp) rfl;exists j;left;specialize zkv (n:=n+3) r s;left;let⟨z,k,g,A⟩:=za1 (f:="bound") (v:=.int b) (gs:=[("many",.int m),("bound",.int b)]) w (h.mv c) (by simp) rfl;exists k;left;specialize t z (c.trans g);left;let⟨B,l,i,C⟩:=za1 (f:="liars") (v:=X) (gs:=[("many",.int m),("bound",.int b),("liars",X)]) A ((h.mv c).mv g) (by simp) rfl;exists l;left;specialize u B ((c.trans g).trans i);left;let⟨J,o,E,G⟩:=za1 (f:="lies") (v:=Y) (gs:=[("many",.int m),("bound",.int b),("liars",X),("lies",Y)]) C (((h.mv c).mv g).mv i) (by simp) rfl;exists o;left;exact⟨rfl,((c.trans g).trans i).trans E,by rw[zaU o,zaU l,zaU k,zaU j],G⟩
abbrev lrD(i m r:Int)(k:Nat)(zs:List Ly):MO:=.ins 0 [("number",.int i),("many",.int m),("rounds",.int r),("inner",.ref k),("lies",.tup (zs.map lD))]
def zqL{S:R.St}{f x k l:Nat}{m b i s kk:Int}{w h:Option Int}{zs:List Ly}(e:S.get x=Φ (.ins 0 []))(a:Fr S x)(es:S.get k=Φ (hD m b i s w h kk l))(hz:zs.length<=1000):W (appW (callF prog (f+2)) 35 [.ref x,.ref k,.tup (zs.map lD)] S) λd T=>d=.non/\Mv [x] S T/\T.len=S.len/\T.get x=Φ (lrD i m (1+3*(b+1)) k zs):=by
 refine zbx (F:=zes) rfl rfl (wS_W _ ?_);left;exists zbu es;left;exists zeY es;left;exists znY es;left;refine zbo ((zle (n:=f) e a).mono λd T p=>?_);let⟨_,c,q,r⟩:=p;let⟨A,g,t,u⟩:=za1 (f:="inner") (v:=.ref k) (gs:=[("number",.int i),("many",.int m),("rounds",.int (1+3*(b+1))),("inner",.ref k)]) r (a.mv c) (by simp) rfl;left;exists g;left;have j:=c.trans t;change by rw[length_map];lia
 left;let⟨B,o,y,z⟩:=za1 (f:="lies") (v:=.tup (zs.map lD)) (gs:=[("number",.int i),("many",.int m),("rounds",.int (1+3*(b+1))),("inner",.ref k),("lies",.tup (zs.map lD))]) u (a.mv j) (by simp) rfl;exists o;left;exact⟨rfl,j.trans y,by rw[zaU o,zaU g,q],z⟩
def zp0{n:Nat}{S:R.St}{ls:List Ly}(a:ls.length<=1000):app (callF prog (n+4)) 0 [.tup (ls.map lD)] S=.ok (.clo (zaz [] ls)) S:=by
 have e:callF prog (n+4) 0 [.tup (ls.map lD)] S.enter=.ok (.clo (zaz [] ls)) S.enter:=by show(if 3<=n+3 then prm S.enter .road [.tup (ls.map lD)] else .bad)=_;rw[if_pos (by lia)];unfold prm;dsimp only;have:(zbh S.enter (.tup (ls.map lD))).bind (λb=>b.mapM lie4)=Φ ls:=zli ls;rw[this];dsimp only;rw[if_pos ⟨a,rfl⟩]
 unfold app;rw[e];show zcG _ _ _=_;unfold zcG;rw[if_pos (by simp[flat])]
def ztY{cf:CF}{e:CE}{T:R.St}{rest:Ev}{i:Int}{h:Option Int}(g:Int->D):∀(os:List Int)(a b c:Option D),(∀o∈os,evE cf e (Φ (.tup [.int i])::Φ (.int o)::Φ (oD h)::rest) T=.ok (g o) T)->
  zax [0,1,2] (evT cf (.tst (.con (.bl Γ)))) (evE cf e) (os.map (rwD i h)) (a::b::c::rest) T=.ok (os.map g) T
 | [],_,_,_,_=>rfl| o::os,a,b,c,d=>by have f:=ztY (cf:=cf) (e:=e) (T:=T) (rest:=rest) g os (Φ (.tup [.int i])) (Φ (.int o)) (Φ (oD h)) λz j=>d z (Κ _ j);rw[Ν,Ν];unfold zax;show Out.bind (.ok Γ T) _=_;rw[zas,if_pos rfl];show Out.bind (evE cf e (Φ (.tup [.int i])::Φ (.int o)::Φ (oD h)::rest) T) _=_;rw[d o Μ,zas];show Out.bind (zax [0,1,2] _ _ (os.map (rwD i h)) (Φ (.tup [.int i])::Φ (.int o)::Φ (oD h)::rest) T) _=_;rw[f];rfl
abbrev toL(m i:Int)(y:Bool):List Int:=if y then(rg m).filter λo=>!decide (o=i) else []
def zoz(m i:Int)(h:Option Int)(y:Bool):sayL m i h y=(toL m i y).map (rwD i h):=by cases y<;>rfl
def zhm{m i:Int}{y:Bool}(a:m<=7):(toL m i y).length<=7:=by unfold toL;split;refine le_trans (ϛ _ _) ?_;simp[rg];omega;simp
def ztm{S:R.St}{f x k l:Nat}{m b i s kk t r:Int}{w h:Option Int}{zs:List Ly}(e:S.get x=Φ (lrD i m r k zs))(c:S.get k=Φ (hD m b i s w h kk l))(g:0<m)(a:m<=7)(hz:zs.length<=1000) :
  W (appW (callF prog (f+5)) 38 [.ref x,.int t] S) λd T=>∃l,d=.ref l/\S.len<=l/\Mv [] S T/\T.get l=Φ (.lst ((toL m i (decide (i∈wrZ m s t))).map λo=>.tup [.tup [.int i],.int o,oD (zbZ (t,[i],o) h zs)])):=by
 refine zbx (F:=zfa) rfl rfl (wS_W _ ?_);have j:=zhm (i:=i) (y:=decide (i∈wrZ m s t)) a;left;exists zaK e rfl;left;specialize zp0 (n:=f) (S:=S) (ls:=zs) hz;left;exists zaK e rfl;left;exists zau c;left;exists rfl;left;change rfl;left;specialize(ztl (n:=f+1) (t:=t) c g a);left;rw[zoz];exists zal _ _;left;refine zat ?_;refine W.of (ztY (λo=>.tup [.tup [.int i],.int o,oD (zbZ (t,[i],o) h zs)]) _ Ψ Ψ Ψ (λo _=>?_)) ?_;refine W.eq (wE_W _ ?_);left;exists zrr zs t [i] o h;left;change by simp
 left;exact⟨rfl,rfl⟩;change by rw[length_map];lia
 left;change by rw[length_map];lia
 left;refine⟨_,rfl,?_,?_,zal _ _⟩;show S.len<=((sayS S m i s t).push _).len;unfold sayS;rw[plen,plen];lia;exact((Mv.push [] S _).trans (Mv.push [] _ _)).trans (Mv.push [] _ _)
def zir:∀(c N:Nat),(refs N c).length=c
 |0,_=>rfl|c+1,N=>by rw[refs,Χ,zir c (N+2)]
abbrev lc(lb:Nat->Bool):Nat->Nat
 |0=>0|j+1=>lc lb j+(lb j).toNat
def zoT{lb:Nat->Bool}{j:Nat}(h:lb j=Γ):lc lb (j+1)=lc lb j+1:=by rw[lc,h];rfl
def ztv{lb:Nat->Bool}{j:Nat}(h:lb j=Δ):lc lb (j+1)=lc lb j:=by rw[lc,h];rfl
def zlp(lb:Nat->Bool){i:Nat}:∀{j:Nat},i<=j->lc lb i<=lc lb j
 |0,h=>by rw[Nat.le_zero.mp h];exact le_refl _| j+1,h=>by rcases Nat.lt_or_eq_of_le h with h|h;exact le_trans (zlp lb (Nat.le_of_lt_succ h)) (Nat.le_add_right _ _);rw[h];exact le_refl _
abbrev whoA(N M:Nat)(lb:Nat->Bool)(j:Nat):Nat:=if lb j then M+lc lb j else N+2*j
abbrev whoR(N M:Nat)(lb:Nat->Bool):Nat->Nat->List D
 |_,0=>[]|k,c+1=>.ref (whoA N M lb k)::whoR N M lb (k+1) c
def zfc(N M:Nat)(lb:Nat->Bool):∀(c k:Nat),(whoR N M lb k c).length=c
 |0,_=>rfl|c+1,k=>by rw[whoR,Χ,zfc N M lb c (k+1)]
abbrev lwE:CE:=.ite (.cmp .In (.fld J0 "number") (.fld J1 "liars")) (.mk 0 35 "Liar" 0 #[J0,.fld J1 "lies"]) J0
section
variable{T:R.St}{n k st l:Nat}{m b i s kk m' b':Int}{w h:Option Int}{lz:List Int}{zs:List Ly}
def ztp(g:T.get k=Φ (hD m b i s w h kk l))(gs:T.get st=Φ (sD m' b' (pD lz) (.tup (zs.map lD))))(j:∀l∈T.lk,l<T.len)(hz:zs.length<=1000)(c:i∈lz) :
  W (evE (callF prog (n+2)) lwE [Φ (.ref k),Φ (.ref st)] T) λd U=>d=.ref T.len/\Mv [] T U/\U.len=T.len+1/\U.get T.len=Φ (lrD i m (1+3*(b+1)) k zs):=by
 refine wE_W _ ?_;unfold lwE;left;exists zbu g;left;exists zaK gs rfl;left;exists zlO _ i lz;left;refine zi7 (decide_eq_true c) ?_;left;exists zaK gs rfl;left;refine zbo ((zqL (f:=n) (zal T (.ins 0 [])) ⟨by show T.frz.length<=T.len;unfold St.len;lia,zcp j (le_refl _)⟩ (zae g) hz).mono λd U p=>?_);let⟨rfl,v,a,q⟩:=p;rw[plen]at a;refine wNeed_of rfl ⟨rfl,⟨v.frz,v.lk,by lia,λm o _ e=>v.old m o (by have:=get_lt e;simp;lia) (zae e)⟩,a,q⟩
def zuL(g:T.get k=Φ (hD m b i s w h kk l))(gs:T.get st=Φ (sD m' b' (pD lz) (.tup (zs.map lD))))(c:i∉lz) :
  evE (callF prog (n+2)) lwE [Φ (.ref k),Φ (.ref st)] T=.ok (.ref k) T:=by
 refine W.eq (wE_W _ ?_);unfold lwE;left;exists zbu g;left;exists zaK gs rfl;left;exists zlO _ i lz;left;refine zj0 (decide_eq_false c) ?_;left;exact⟨rfl,rfl⟩
end
noncomputable abbrev lbZ(lz:List Int)(j:Nat):Bool:=decide (((j:Nat):Int)∈lz)
def zhK{n N M st m:Nat}{b s w E G:Int}{lz:List Int}{zs:List Ly}(hz:zs.length<=1000):∀(c k:Nat)(T:R.St)(o:Option D),k+c<=m->Hs T N 0 m (m:Nat) b s w->T.get st=Φ (sD E G (pD lz) (.tup (zs.map lD)))->(∀l∈T.lk,l<T.len)->T.len=M+lc (lbZ lz) k->
  W (zax [0] (evT (callF prog (n+2)) (.tst (.con (D.bl Γ)))) (evE (callF prog (n+2)) lwE) (refs (N+2*k) c) [o,Φ (.ref st)] T) λds U=>ds=whoR N M (lbZ lz) k c/\Mv [] T U/\U.len=M+lc (lbZ lz) (k+c)/\∀j,k<=j->j<k+c->lbZ lz j=Γ->U.get (M+lc (lbZ lz) j)=Φ (lrD (j:Nat) (m:Nat) (1+3*(b+1)) (N+2*j) zs)
 |0,k,T,o,_,_,_,_,e=>by show W (Out.ok [] T) _;rw[W_ok];exact⟨rfl,Mv.refl _ _,e,λj a A=>by lia⟩| c+1,k,T,o,Q,H,p,t,e=>by have g:=(H.a k (by lia)).1;rw[zero_add]at g;rw[refs,zax];show W (Out.bind (Out.ok Γ T) _) _;rw[zas];show W (Out.bind (evE (callF prog (n+2)) lwE [Φ (.ref (N+2*k)),Φ (.ref st)] T) _) _;rw[zab,show N+2*k+2=N+2*(k+1) by lia,whoR];by_cases y:((k:Nat):Int)∈lz;have f:lbZ lz k=Γ:=decide_eq_true y;refine(ztp g p t hz y).mono λd U I=>?_;let⟨rfl,v,B,J⟩:=I;rw[zab];refine(zhK (M:=M) hz c (k+1) U _ (by lia) ⟨λi C=>⟨v.old _ _ (by simp) (H.a i C).1,v.old _ _ (by simp) (H.a i C).2⟩⟩ (v.old _ _ (by simp) p) (by rw[v.lk,B];exact λx L=>by have:=t x L;lia) (by rw[B,e,zoT f];lia)).mono λds O u=>?_;let⟨rfl,r,z,q⟩:=u;rw[W_ok];refine⟨?_,v.trans r,by rw[z,show k+1+c=k+(c+1) by lia],λj a A h=>?_⟩;unfold whoA;rw[f,if_pos rfl,<-e];rcases Nat.lt_or_eq_of_le a with a|a;exact q j a (by lia) h;subst a;rw[<-e];exact r.old _ _ (by simp) J;have f:lbZ lz k=Δ:=decide_eq_false y;rw[zuL g p y,W_ok,zab];refine(zhK (M:=M) hz c (k+1) T _ (by lia) H p t (by rw[e,ztv f])).mono λds O u=>?_;let⟨rfl,r,z,q⟩:=u;rw[W_ok];refine⟨?_,r,by rw[z,show k+1+c=k+(c+1) by lia],λj a A h=>?_⟩;unfold whoA;rw[f,if_neg (by decide)];rcases Nat.lt_or_eq_of_le a with a|a;exact q j a (by lia) h;subst a;rw[f]at h;exact nB h
def zeX{N M L:Nat}{lb:Nat->Bool}(b:L<=M):∀(c k j:Nat),k<=j->j<k+c->lb j=Γ->flats L (whoR N M lb k c)=Δ
 |0,k,j,d,f,_=>by lia| c+1,k,j,d,f,a=>by rw[whoR];simp![flats,Bool.and_eq_false_iff];by_cases e:k=j;subst e;left;simp[whoA,a,flat];lia;exact .inr (zeX b c (k+1) j (by lia) (by lia) a)
def zeW{N M L:Nat}{lb:Nat->Bool}:∀(c k:Nat),(∀j,k<=j->j<k+c->lb j=Δ/\N+2*j<L)->flats L (whoR N M lb k c)=Γ
 |0,k,_=>rfl| c+1,k,h=>by let⟨d,e⟩:=h k (le_refl _) (by lia);rw[whoR];simp![flats,Ε];refine⟨by simp[whoA,d,flat,e],zeW c (k+1) λj a b=>h j (by lia) (by lia)⟩
def zlo{lb:Nat->Bool}:∀{m:Nat},(∀j,j<m->lb j=Δ)->lc lb m=0
 |0,_=>rfl|m+1,h=>by rw[ztv (h m (by lia)),zlo λj a=>h j (by lia)]
def zsv{S:R.St}{n N f st m:Nat}{b s w B C:Int}{lz:List Int}{zs:List Ly}(L:m<=7)(hz:zs.length<=1000)(r:S.get f=Φ (.lst (refs N m)))(gs:S.get st=Φ (sD B C (pD lz) (.tup (zs.map lD))))(H:Hs S N 0 m (m:Nat) b s w) :
  W (app (callF prog (n+3)) 10 [.ref f,.ref st] S) λd U=>d=.ref (S.len+lc (lbZ lz) m)/\Mv [] S U/\U.get (S.len+lc (lbZ lz) m)=Φ (.lst (whoR N S.len (lbZ lz) 0 m))/\∀j,j<m->lbZ lz j=Γ->U.get (S.len+lc (lbZ lz) j)=Φ (lrD (j:Nat) (m:Nat) (1+3*(b+1)) (N+2*j) zs):=by
 refine zf7 (F:=zdp) rfl rfl ?_;left;refine zaA r ?_;left;refine zat ?_;have g:∀(l:List Nat) x o,S.get x=Φ o->({S.enter with lk:=l}:R.St).get x=Φ o:=λl x o e=>by show S.enter.get x=Φ o;rw[zbe];exact e
 have t:(({S.enter with lk:=[f]}:R.St).len)=S.len+lc (lbZ lz) 0:=by show S.enter.len=_;rw[R.enter_len];rfl
 have k:=get_lt r;refine(zhK (n:=n) (N:=N) (M:=S.len) (st:=st) (m:=m) (b:=b) (s:=s) (w:=w) (lz:=lz) hz m 0 {S.enter with lk:=[f]} Ψ (by lia) ⟨λi u=>⟨g _ _ _ (H.a i u).1,g _ _ _ (H.a i u).2⟩⟩ (g _ _ _ gs) (by intro x E;rw[mem_singleton.mp E];rw[t];exact lt_of_lt_of_le k (Nat.le_add_right _ _)) t).mono λO U G=>?_;let⟨rfl,v,l,q⟩:=G;rw[zero_add]at l q;change by rw[zfc];lia
 left;change by rw[zfc];lia
 have I:Mv [] S.enter ({U with lk:=S.enter.lk}:R.St):=⟨v.frz,rfl,v.len,λm o h e=>v.old m o h e⟩;have y:=I.trans (Mv.push [] _ (.lst (whoR N S.len (lbZ lz) 0 m)));by_cases z:∃j,j<m/\lbZ lz j=Γ;let⟨j,a,c⟩:=z;refine zgb (l:=U.len) (by rw[l];lia) (zal ({U with lk:=S.enter.lk}:R.St) (.lst (whoR N S.len (lbZ lz) 0 m))) (zeX (le_refl _) m 0 j (zero_le _) (by lia) c) ?_;have A:∀x,(R.St.mk S.frz (S.new++(({U with lk:=S.enter.lk}:R.St).push (.lst (whoR N S.len (lbZ lz) 0 m))).new) S.lk).get x=(({U with lk:=S.enter.lk}:R.St).push (.lst (whoR N S.len (lbZ lz) 0 m))).get x:=λx=>zfO y.frz;refine⟨by rw[l],zly y,?_,λj a c=>?_⟩;rw[A,<-l];exact zal ({U with lk:=S.enter.lk}:R.St) _;rw[A];exact zae (q j (zero_le _) a c);have p:∀j,j<m->lbZ lz j=Δ:=λj a=>by cases e:lbZ lz j with|false=>rfl|true=>exact absurd ⟨j,a,e⟩ z
 rw[zlo p]at l⊢;have J:flats S.len (whoR N S.len (lbZ lz) 0 m)=Γ:=zeW m 0 λj _ Y=>⟨p j (by lia),get_lt (H.a j (by lia)).1⟩;have:=zdG (S:=S) (T:=({U with lk:=S.enter.lk}:R.St).push (.lst (whoR N S.len (lbZ lz) 0 m))) (l:=U.len) (Q:=λd U=>d=.ref (S.len+0)/\Mv [] S U/\U.get (S.len+0)=Φ (.lst (whoR N S.len (lbZ lz) 0 m))/\∀j,j<m->lbZ lz j=Γ->U.get (S.len+lc (lbZ lz) j)=Φ (lrD (j:Nat) (m:Nat) (1+3*(b+1)) (N+2*j) zs)) (by rw[l];lia) (zal ({U with lk:=S.enter.lk}:R.St) (.lst (whoR N S.len (lbZ lz) 0 m))) J ⟨rfl,Mv.push _ _ _,zal _ _,λj a c=>by rw[p j a]at c;exact nB c⟩;exact this
abbrev unD:D->Option Int|.int i=>Φ i|_=>Ψ
def zrP(o:Option Int):unD (oD o)=o:=by cases o<;>rfl
def zsH(m:Int):(rg m).Pairwise (· < ·):=by unfold rg;rw[pairwise_map];exact Pairwise.imp (λ{a b} h=>by exact_mod_cast h) List.pairwise_lt_range
def zj9(m i:Int)(y:Bool):(toL m i y).Pairwise (· < ·):=by unfold toL;split;exact(zsH m).filter _;exact .nil
abbrev cvL(B:List Bxl):List (Int×Option Int):=B.map λx=>(x.1.headD 0,unD x.2)
abbrev kLt(x:Bxl):Prop:=∃(i:Int) (o:Option Int),x=([i],oD o)
def cv_D:∀{B:List Bxl},(∀x∈B,kLt x)->B.map bxD=(cvL B).map ltD
 | [],_=>rfl| x::B,h=>by let⟨i,o,rfl⟩:=h x (by simp);have a:=cv_D (B:=B) λy b=>h y (by simp[b]);unfold cvL at a⊢;rw[Ν,Ν,Ν,a];congr 1;show D.tup [.tup [.int i],oD o]=.tup [.tup [.int i],oD (unD (oD o))];rw[zrP]
noncomputable abbrev Kh:=Option Int×Int×List (Option Int)
abbrev bnd(lz:List Int)(zs:List Ly)(j:Nat)(t o:Int)(x:Option Int):Option Int:=if lbZ lz j then zbZ (t,[((j:Nat):Int)],o) x zs else x
abbrev kt(m:Nat)(b s w:Int)(N M:Nat)(lz:List Int)(zs:List Ly):Town where
 H:=Kh
 m:=m
 who j:=whoA N M (lbZ lz) j
 adr j:=[whoA N M (lbZ lz) j,N+2*j,N+2*j+1]
 ok S d j h:=S.get (N+2*j)=Φ (hD (m:Nat) b (j:Nat) s (wdO s w (j:Nat)) h.1 h.2.1 (N+2*j+1))/\S.get (N+2*j+1)=Φ (.lst (h.2.2.map oD))/\h.2.2.length<=d/\(lbZ lz j=Γ->S.get (M+lc (lbZ lz) j)=Φ (lrD (j:Nat) (m:Nat) (1+3*(b+1)) (N+2*j) zs))
 say j t h:=(toL (m:Nat) (j:Nat) (decide (((j:Nat):Int)∈wrZ (m:Nat) s t))).map λo=>⟨[((j:Nat):Int)],o,oD (bnd lz zs j t o h.1)⟩
 hear j t h B:=((hrZ (m:Nat) b (j:Nat) s t h.1 h.2.1 (cvL B)).1,(hrZ (m:Nat) b (j:Nat) s t h.1 h.2.1 (cvL B)).2,h.2.2++[(hrZ (m:Nat) b (j:Nat) s t h.1 h.2.1 (cvL B)).1])
 lt:=kLt
 tt _:=True
section
variable{m:Nat}{b s w:Int}{N M:Nat}{lz:List Int}{zs:List Ly}
def zlu(t:Int):∀(hs:List Kh)(k:Nat),(∀r∈(kt m b s w N M lz zs).said t k hs,∃j:Nat,k<=j/\r.p=[((j:Nat):Int)])/\(((kt m b s w N M lz zs).said t k hs).map key).Pairwise Lt3
 | [],k=>⟨λr c=>(by cases c),.nil⟩| h::hs,k=>by let⟨f,i⟩:=zlu t hs (k+1);refine⟨λr c=>?_,?_⟩;rcases mem_append.mp c with c|c;let⟨o,_,rfl⟩:=mem_map.mp c;exact⟨k,le_refl _,rfl⟩;let⟨j,a,e⟩:=f r c;exact⟨j,by lia,e⟩;show((_++_:List Row).map key).Pairwise Lt3;rw[map_append,List.pairwise_append];refine⟨?_,i,λx l y n=>?_⟩;show((List.map _ (toL _ _ _)).map key).Pairwise Lt3;rw[map_map,pairwise_map];exact(zj9 _ _ _).imp λ{a b} z=>.inr ⟨rfl,.inr ⟨rfl,z⟩⟩;let⟨r,c,rfl⟩:=mem_map.mp l;let⟨o,_,rfl⟩:=mem_map.mp c;let⟨g,d,rfl⟩:=mem_map.mp n;let⟨j,a,e⟩:=f g d;refine .inr ⟨rfl,.inl ?_⟩;show lexZ [((k:Nat):Int)] g.p=Γ;rw[e,zca,if_neg (by lia)];exact decide_eq_true (by lia)
def zoU(a:m<=7)(t:Int):∀(hs:List Kh)(k:Nat),((kt m b s w N M lz zs).said t k hs).length<=7*hs.length
 | [],k=>le_refl _| h::hs,k=>by
  have c:=zoU a t hs (k+1);show(_++_:List Row).length<=_;rw[length_append,Χ];have:((kt m b s w N M lz zs).say k t h).length<=7:=by show(List.map _ (toL _ _ _)).length<=7;rw[length_map];exact zhm (by lia)
  lia
def zqM{S:R.St}{f x k q l:Nat}{i r t:Int}{h:Option Int}{kk:Int}{w':Option Int}{Q:D->R.St->Prop}(e:S.get x=Φ (lrD i (m:Nat) r k zs))(a:S.get k=Φ (hD (m:Nat) b i s w' h kk l))(c:W (appW (callF prog f) 42 [.ref k,.int t,.ref q] S) λd T=>Q .non T):W (appW (callF prog (f+1)) 37 [.ref x,.int t,.ref q] S) Q:=by refine zbx (F:=zet) rfl rfl (wS_W _ ?_);left;exists zaK e rfl;left;exists zau a;left;exists rfl;left;change rfl;left;refine zbo (c.mono λd T g=>?_);left;exact g
def zuM(m1:1<=m)(L:m<=7)(E:0<=b)(hz:zs.length<=1000):TownOk (kt m b s w N M lz zs) 8:=by
 refine⟨λ{S T d j h} o g=>?_,λ{S d j h} o z hz=>?_,λ{S d j h} t n _ hk O o=>?_,λj t h r Q=>?_,λj=>by simp[kt],λx U M=>?_,λ{S d j Y h B} t n O hd o q gb nb hl lt=>?_,λt u G=>(zlu t u 0).2,λt u G=>?_⟩;refine⟨g _ (by simp[kt]) _ o.1,g _ (by simp[kt]) _ o.2.1,o.2.2.1,λy=>g _ ?_ _ (o.2.2.2 y)⟩;show _∈[whoA N M (lbZ lz) j,N+2*j,N+2*j+1];unfold whoA;rw[y,if_pos rfl];exact Μ;simp![kt,mem_cons,not_mem_nil,or_false]at hz;rcases hz with rfl|rfl|rfl;unfold whoA;cases y:lbZ lz j with|true=>exact⟨_,o.2.2.2 y⟩|false=>exact⟨_,o.1⟩
 exact⟨_,o.1⟩;exact⟨_,o.2.1⟩;cases y:lbZ lz j with
 |true=>
  have a:(kt m b s w N M lz zs).who j=M+lc (lbZ lz) j:=by show whoA _ _ _ _=_;unfold whoA;rw[y,if_pos rfl]
  rw[a];refine⟨_,_,38,o.2.2.2 y,rfl,rfl,?_⟩;refine(ztm (f:=n+3) (t:=t) (o.2.2.2 y) o.1 (by lia) (by lia) hz).mono λx T c=>?_;let⟨l,rfl,h1,C,A⟩:=c;refine⟨l,rfl,h1,C,?_⟩;rw[A];show _=Φ (MO.lst ((List.map _ (toL _ _ _)).map rD));rw[map_map];congr 2;refine Τ λo _=>?_;show _=D.tup [.tup [.int _],.int o,oD (bnd lz zs j t o h.1)];unfold bnd;rw[y,if_pos rfl]
 |false=>
  have a:(kt m b s w N M lz zs).who j=N+2*j:=by show whoA _ _ _ _=_;unfold whoA;rw[y,if_neg (by decide)]
  rw[a];refine⟨_,_,47,o.1,rfl,rfl,?_⟩;show W (appW (callF prog (n+5+3)) 47 [.ref (N+2*j),.int t] S) _;rw[ztl (t:=t) o.1 (by lia) (by lia),W_ok];refine⟨_,rfl,?_,(Mv.push _ _ _).trans (Mv.push _ _ _),?_⟩;unfold sayS;rw[plen];lia;rw[zal,zoz];show _=Φ (MO.lst ((List.map _ (toL _ _ _)).map rD));rw[map_map];congr 2;refine Τ λo _=>?_;show _=D.tup [.tup [.int _],.int o,oD (bnd lz zs j t o h.1)];unfold bnd;rw[y,if_neg (by decide)];rfl
 let⟨o,_,rfl⟩:=mem_map.mp Q;exact⟨_,_,rfl⟩
 . let⟨i,o,rfl⟩:=U;cases o<;>rfl
 have I:S.get Y=Φ (.lst ((cvL B).map ltD)):=by rw[gb,cv_D lt]
 have J:(cvL B).length<=60:=by unfold cvL;rw[length_map];exact hl
 have nh:=(zoS (n:=n) (t:=t) o.1 (q _ (by simp[kt])) I o.2.1 (q _ (by simp[kt])) (by lia) (by have:=o.2.2.1;lia) J E (by lia));have fin:∀T:R.St,Mv [N+2*j,N+2*j+1] S T->T.get (N+2*j)=Φ (hD (m:Nat) b (j:Nat) s (wdO s w (j:Nat)) (hrZ (m:Nat) b (j:Nat) s t h.1 h.2.1 (cvL B)).1 (hrZ (m:Nat) b (j:Nat) s t h.1 h.2.1 (cvL B)).2 (N+2*j+1))->T.get (N+2*j+1)=Φ (.lst ((h.2.2++[(hrZ (m:Nat) b (j:Nat) s t h.1 h.2.1 (cvL B)).1]).map oD))->Mv ((kt m b s w N M lz zs).adr j) S T/\(kt m b s w N M lz zs).ok T (d+1) j ((kt m b s w N M lz zs).hear j t h B):=λT v e k=>by refine⟨v.up (by simp[kt]),e,k,?_,λy=>?_⟩;show(h.2.2++[_]).length<=d+1;rw[length_append];have:=o.2.2.1;simp;lia;have p:=o.2.2.2 y;refine v.old _ _ ?_ p;simp![mem_cons,not_mem_nil,or_false,not_or];refine⟨λz=>?_,λz=>?_⟩;rw[z,o.1]at p;cases p;rw[z,o.2.1]at p;cases p
 cases y:lbZ lz j with
 |true=>
  have a:(kt m b s w N M lz zs).who j=M+lc (lbZ lz) j:=by show whoA _ _ _ _=_;unfold whoA;rw[y,if_pos rfl]
  rw[a];refine⟨_,_,37,o.2.2.2 y,rfl,rfl,?_⟩;refine zqM (f:=n+7) (o.2.2.2 y) o.1 (nh.mono λx T c=>?_);let⟨_,v,e,k⟩:=c;exact⟨rfl,fin T v e k⟩
 |false=>
  have a:(kt m b s w N M lz zs).who j=N+2*j:=by show whoA _ _ _ _=_;unfold whoA;rw[y,if_neg (by decide)]
  rw[a];refine⟨_,_,42,o.1,rfl,rfl,?_⟩;refine(zoS (n:=n+1) (t:=t) o.1 (q _ (by simp[kt])) I o.2.1 (q _ (by simp[kt])) (by lia) (by have:=o.2.2.1;lia) J E (by lia)).mono λx T c=>?_;let⟨rfl,v,e,k⟩:=c;exact⟨rfl,fin T v e k⟩
 have C:List.length u=m:=G;refine le_trans (zoU (b:=b) (s:=s) (w:=w) (N:=N) L t u 0) ?_;have A:7*m<=60:=by lia
 rw[<-C]at A;exact A
def zqW{i j:Nat}{lb:Nat->Bool}(h:i<j)(y:lb i=Γ):lc lb i<lc lb j:=by have:=zlp lb h;rw[zoT y]at this;lia
def zuN(l:N+2*m<=M):Dj (kt m b s w N M lz zs):=by
 intro i j f k h z a c;simp![kt,mem_cons,not_mem_nil,or_false]at a c f k;unfold whoA at a c;cases d:lbZ lz i<;>cases e:lbZ lz j<;>simp![d,e,if_true,Ρ,if_false]at a c<;>first|lia|skip
 rcases Nat.lt_or_gt_of_ne h with g|g;have:=zqW (lb:=lbZ lz) g d;lia;have:=zqW (lb:=lbZ lz) g e;lia
def zid:∀(c k:Nat),whoL (kt m b s w N M lz zs) k c=whoR N M (lbZ lz) k c
 |0,_=>rfl|c+1,k=>by rw[whoL,whoR,zid c (k+1)];rfl
end
abbrev hs0(s w:Int)(k:Nat):Nat->List Kh
 |0=>[]|c+1=>(wdO s w (k:Nat),0,[])::hs0 s w (k+1) c
def zbB(s w:Int):∀(c k:Nat),(hs0 s w k c).length=c
 |0,_=>rfl|c+1,k=>by rw[hs0,Χ,zbB s w c (k+1)]
def zfS(s w:Int):∀(c k i:Nat)(h:Kh),(hs0 s w k c)[i]?=Φ h->i<c/\h=(wdO s w ((k+i:Nat):Int),0,[])
 |0,_,i,h,e=>by simp[hs0]at e|c+1,k,0,h,e=>by cases e;exact⟨by lia,rfl⟩| c+1,k,i+1,h,e=>by let⟨b,a⟩:=zfS s w c (k+1) i h (by simpa[hs0]using e);exact⟨by lia,by rw[a,show k+1+i=k+(i+1) by lia]⟩
structure Pl(U:R.St)(a hl N m:Nat)(b s w:Int)(hs:List Kh)(Ls:List D):Prop where
 p:∃sl:Nat,U.get a=Φ (.ins 2 [("hands",.ref hl),("sent",.ref sl)])/\U.get sl=Φ (.lst Ls)
 h:U.get hl=Φ (.lst (refs N m))
 k:∀(j:Nat) h,hs[j]?=Φ h->U.get (N+2*j)=Φ (hD (m:Nat) b (j:Nat) s (wdO s w (j:Nat)) h.1 h.2.1 (N+2*j+1))/\U.get (N+2*j+1)=Φ (.lst (h.2.2.map oD))/\h.2.2.length<=40
 l:hs.length=m
def Pl.mono{U T:R.St}{a c N m:Nat}{b s w:Int}{hs:List Kh}{Ls:List D}(P:Pl U a c N m b s w hs Ls)(g:∀l o,U.get l=Φ o->T.get l=Φ o):Pl T a c N m b s w hs Ls:=by let⟨⟨d,p,f⟩,h,k,l⟩:=P;exact⟨⟨d,g _ _ p,g _ _ f⟩,g _ _ h,λj x e=>⟨g _ _ (k j x e).1,g _ _ (k j x e).2.1,(k j x e).2.2⟩,l⟩
def zqK{S:R.St}{n m c a k th N M:Nat}{b s w z:Int}{lz:List Int}{zs:List Ly}(m1:1<=m)(m7:m<=7)(hb:0<=b)(B:zs.length<=1000)(e:S.get a=Φ (.ins 2 []))(C:Fr S a)(L:S.get k=Φ (.lst (refs N m)))(O:S.get th=Φ (.lst (whoR N M (lbZ lz) 0 m)))(H:Hs S N 0 m (m:Nat) b s w)(hL:∀j,j<m->lbZ lz j=Γ->S.get (M+lc (lbZ lz) j)=Φ (lrD (j:Nat) (m:Nat) (1+3*(b+1)) (N+2*j) zs))(fr:∀z,N<=z->z<S.len->Fr S z)(na:a<N)(nh:N+2*m<=k)(nM:k<M)(nt:th=M+lc (lbZ lz) m)(hk:∀l∈S.lk,l<S.len)(hc:c<=40)(hz:z=(c:Nat)) :
  W (appW (callF prog (n+12)) 57 [.ref a,.ref k,.ref th,.int z] S) λd U=>d=.non/\Pl U a k N m b s w (rnds (kt m b s w N M lz zs) 1 c (hs0 s w 0 m)) (lets (kt m b s w N M lz zs) 1 c (hs0 s w 0 m))/\U.frz=S.frz/\U.lk=S.lk/\S.len<=U.len/\∀l o,l≠a->l<N->S.get l=Φ o->U.get l=Φ o:=by
 refine zbx (F:=zer) rfl rfl (wS_W _ ?_);let⟨u,a1,g,Q⟩:=za1 (f:="hands") (v:=.ref k) (gs:=[("hands",.ref k)]) e C (by simp) rfl;have X:=zuM (s:=s) (w:=w) (N:=N) (M:=M) (lz:=lz) (zs:=zs) m1 m7 hb B;have r:∀i,i<m->∀z∈(kt m b s w N M lz zs).adr i,(N<=z/\z<N+2*m)\/(M<=z/\z<M+lc (lbZ lz) m):=λi q z hz=>by simp![kt,mem_cons,not_mem_nil,or_false]at hz;unfold whoA at hz;cases y:lbZ lz i with| true=>have:=zqW (lb:=lbZ lz) q y;rw[y,if_pos rfl]at hz;lia| false=>rw[y,if_neg (by decide)]at hz;lia
 have lth:=get_lt O;have pk:∀(i:Nat) h,(hs0 s w 0 m)[i]?=Φ h->Pk (kt m b s w N M lz zs) u 0 i h:=λi h E=>by let⟨q,rfl⟩:=zfS s w m 0 i h E;let⟨T,x2⟩:=H.a i q;rw[zero_add]at T⊢;refine⟨⟨g.old _ _ (by simp;lia) T,g.old _ _ (by simp;lia) x2,zero_le _,λy=>g.old _ _ (by simp;lia) (hL i q y)⟩,λz hz=>?_⟩;exact(fr z (by have:=r i q z hz;lia) (by have:=r i q z hz;lia)).mv g
 have rn:=zut X (S:=u) (n:=n) (c:=c) (z:=z) (th:=th) (hs:=hs0 s w 0 m) (λ_ _ _=>trivial) (zuN (by lia)) (zbB s w m 0) (by rw[zid];exact g.old _ _ (by simp;lia) O) pk (λi q G=>by have:=r i q _ G;lia) (by rw[g.lk];exact λl k=>lt_of_lt_of_le (hk l k) g.len) hc hz (by lia);left;exists a1;left;refine zbo (rn.mono λx U hU=>?_);let⟨rfl,Z,Y,uf,ul,I⟩:=hU;have p:∀l,l<N\/l=k->∀i,i<(kt m b s w N M lz zs).m->l∉(kt m b s w N M lz zs).adr i:=λl h i q G=>by have:=r i q l G;lia
 have ga:U.get a=Φ (.ins 2 [("hands",.ref k)]):=I a _ (p a (.inl na)) Q;have fa:Fr U a:=⟨by rw[uf];exact(C.mv g).f,by rw[Y];exact(C.mv g).k⟩;let⟨T2,a2,t,g2⟩:=za1 (f:="sent") (v:=.ref u.len) (gs:=[("hands",.ref k),("sent",.ref u.len)]) ga fa (by simp) rfl;left;exists a2;left;refine⟨rfl,⟨⟨_,g2,t.old _ _ (by have:=get_lt ga;have:=get_lt Q;have:=g.len;have:=get_lt L;simp;lia) Z.gl⟩,t.old _ _ (by simp;lia) (I _ _ (p k (.inr rfl)) (g.old _ _ (by simp;lia) L)),λj h E=>?_,Z.lh⟩,by rw[t.frz,uf,g.frz],by rw[t.lk,Y,g.lk],le_trans g.len (le_trans (le_of_lt ul) t.len),λl o A J e=>t.old _ _ (by simpa using A) (I _ _ (p l (.inl J)) (g.old _ _ (by simpa using A) e))⟩;let⟨A,J,h3,_⟩:=(Z.p1 j h E).ok;exact⟨t.old _ _ (by simp;lia) A,t.old _ _ (by simp;lia) J,by lia⟩
def ziS{S U:R.St}(a:∀l∈S.lk,l<S.len)(v:Mv [] S U){z:Nat}(h:S.len<=z):Fr U z:=by
 refine⟨?_,?_⟩;rw[v.frz];have:S.frz.length<=S.len:=by unfold St.len;lia
 lia;rw[v.lk,Bool.eq_false_iff];intro c;have:=a _ (List.contains_iff_mem.mp c);lia
def zmV{n:Nat}{S:R.St}{i:Int}(h:-10^60<i/\i<10^60):app (callF prog (n+3)) 6 [.int i] S=.ok (.int i) S:=by refine zaY (F:=zg6) rfl rfl ?_;left;specialize zoB (n:=n) h;left;exact zak rfl ⟨rfl,rfl⟩
def zqO{S:R.St}{n a st m:Nat}{b s w:Int}{lz:List Int}{zs:List Ly}(e:S.get st=Φ (sD (m:Nat) b (pD lz) (.tup (zs.map lD))))(q:S.get a=Φ (.ins 2 []))(E:Fr S a)(r:∀l∈S.lk,l<S.len)(t:1<=m)(g:m<=7)(h:0<=b)(u:b<=5)(hs:0<=s/\s<(m:Nat))(G:-10^60<w/\w<10^60)(hz:zs.length<=1000) :
  W (appW (callF prog (n+13)) 50 [.ref a,.ref st,.int s,.int w] S) λx U=>x=.non/\(∃j N M,Pl U a j N m b s w (rnds (kt m b s w N M lz zs) 1 (1+3*(b+1)).toNat (hs0 s w 0 m)) (lets (kt m b s w N M lz zs) 1 (1+3*(b+1)).toNat (hs0 s w 0 m)))/\U.frz=S.frz/\U.lk=S.lk/\S.len<=U.len/\∀l o,l≠a->S.get l=Φ o->U.get l=Φ o:=by
 refine zbx (F:=zdt) rfl rfl (wS_W _ ?_);left;exists zaK e rfl;left;specialize zfl (n:=n+9) hs;left;specialize zmV (n:=n+9) G;left;exists zaK e rfl;left;exists zaK e rfl;left;refine zbo ((zp4 (n:=n+9) h u t g).mono λx U I=>?_);let⟨rfl,v,A,H,ul⟩:=I;have e1:=v.old _ _ (by simp) e;have J:=get_lt q;left;refine zbo ((zsv (n:=n+9) g hz A e1 H).mono λx L k=>?_);let⟨rfl,f,O,Q⟩:=k;have e2:=f.old _ _ (by simp) e1;left;exists zaK e2 rfl;left;specialize zil (n:=n+11) h u;left;have d:=v.trans f;have Y:Hs L S.len 0 m (m:Nat) b s w:=⟨λi B=>⟨f.old _ _ (by simp) (H.a i B).1,f.old _ _ (by simp) (H.a i B).2⟩⟩;refine zbo ((zqK (n:=n) (c:=(1+3*(b+1)).toNat) (z:=1+3*(b+1)) (M:=U.len) t g h hz (d.old _ _ (by simp) q) (E.mv d) (f.old _ _ (by simp) A) O Y Q (λz p _=>ziS r d p) J (le_refl _) (by lia) rfl (by rw[d.lk];exact λl j=>lt_of_lt_of_le (r l j) d.len) (by lia) (by lia)).mono λy T hT=>?_);let⟨_,P,tf,tk,tl,to⟩:=hT;left;exact⟨rfl,⟨_,_,_,P⟩,by rw[tf,d.frz],by rw[tk,d.lk],le_trans d.len tl,λl o p C=>to l o p (get_lt C) (d.old _ _ (by simp) C)⟩
def zkz:∀(c N i:Nat),i<c->(refs N c)[i]?=Φ (.ref (N+2*i))
 |c+1,N,0,_=>rfl| c+1,N,i+1,h=>by rw[refs,List.getElem?_cons_succ,zkz c (N+2) i (by lia),show N+2+2*i=N+2*(i+1) by lia]
section
variable{S:R.St}{n a hl N m:Nat}{b s w:Int}{hs:List Kh}{Ls:List D}
def m_at{j:Nat}(P:Pl S a hl N m b s w hs Ls)(c:j<m):appW (callF prog (n+4)) 52 [.ref a,.int (j:Nat)] S=.ok (.ref (N+2*j)) S:=by let⟨d,p,e⟩:=P.p;refine zbE (F:=zcz) rfl rfl ?_;left;exists zaK p rfl;left;exists zaK p rfl;left;exists P.h;left;rw[zir];specialize zfl (n:=n) (show(0:Int)<=((j:Nat):Int)/\((j:Nat):Int)<((m:Nat):Int) by lia);left;exists P.h;left;exists zh7 (zkz m N j c);left;exact⟨rfl,rfl⟩
def ztk{j:Nat}{h:Kh}(P:Pl S a hl N m b s w hs Ls)(e:hs[j]?=Φ h):appW (callF prog (n+5)) 54 [.ref a,.int (j:Nat)] S=.ok (.ref S.len) (S.push (.lst (h.2.2.map oD))):=by
 let⟨g,p,i⟩:=P.p;have d:j<m:=by rw[<-P.l];exact(Α.mp e).1
 let⟨c,f,k⟩:=P.k j h e;refine zbE (F:=zc5) rfl rfl ?_;left;exists zau p;left;exists rfl;left;change rfl;left;specialize(m_at (n:=n) P d);left;exists zau c;left;exists rfl;left;change rfl;left;specialize zqI (n:=n+3) c f (by lia);left;exact⟨rfl,rfl⟩
end
def zgB{b c:Type}(f:b->c):∀(l:List b)(j:Nat),(l.map f).eraseIdx j=(l.eraseIdx j).map f
 | [],_=>rfl|_::_,0=>rfl|a::l,j+1=>by simp[zgB f l j]
def zp3{n:Nat}{S:R.St}{c:Int}{m t:Nat}(A:m<=7)(I:t<=m) :
  ∃lr:List Int,app (callF prog (n+1)) 26 [.int c,.int (m:Nat),.int (t:Nat)] S=.ok (.ref S.len) (S.push (.lst (lr.map .int)))/\lr.length<=t/\∀x∈lr,0<=x/\x<(m:Int):=by
 have key:W (app (callF prog (n+1)) 26 [.int c,.int (m:Nat),.int (t:Nat)] S) λd T=>∃lr:List Int,(d=.ref S.len/\T=S.push (.lst (lr.map .int)))/\lr.length<=t/\∀x∈lr,0<=x/\x<(m:Int):=by
  refine zf7 (F:=zep) rfl rfl ?_;left;right;left;change by lia
  left;change by simp;lia
  left;change by lia
  left;change by lia
  left;have B:0<=c%((t:Int)+1):=emod_nonneg _ (by lia);have C:c%((t:Int)+1)<(t:Int)+1:=ϒ _ (by lia);change by lia
  left;generalize c%((t:Int)+1)=q at B C;refine zat ?_;refine W.mono (zaE (λi o T=>∃(left b:List Int) (x v:Option D),o=[Φ (.int c),Φ (.int m),Φ (.int t),Φ (.ref ((S.frz++S.new).length+0)),Φ (.ref ((S.frz++S.new).length+1)),x,v]/\(∃z,x=Φ (.int z))/\
   T=⟨S.frz++S.new,[.lst (b.map .int),.lst (left.map .int)],[]⟩/\left.length+i=m/\b.length=i/\∀x∈b++left,0<=x/\x<(m:Int))
   (λ_ _=>False) _ 0 _ _ ⟨(List.range m).map λ(k:Nat)=>(k:Int),[],_,Ψ,rfl,⟨_,rfl⟩,?_,by simp,rfl,?_⟩ ?_) ?_
  have:(List.map (λ(k:Nat)=>D.int k) (List.range (m:Int).toNat))=((List.range m).map λ(k:Nat)=>(k:Int)).map D.int:=by simp
  show St.mk (S.frz++S.new) _ _=_;rw[this];rfl;intro x f;simp at f;let⟨k,J,rfl⟩:=f;lia;rintro i z o T g ⟨left,b,x,v,rfl,⟨r,rfl⟩,rfl,u,l,p⟩;rw[zero_add]at u l⊢;have E:i<q.toNat:=by have:=(Α.mp g).1;simpa using this
  have g:z=.int i:=by rw[getElem?_map]at g;simp[E]at g;exact g.symm
  subst g;refine⟨_,rfl,wS_W _ ?_⟩;left;refine zam rfl ?_;left;refine zam rfl ?_;left;refine zam rfl ?_;left;have w:(0:Int)<((left.map D.int).length:Nat):=by simp;lia
  change by exact w
  left;refine zam rfl ?_;left;change emod_nonneg _ (by lia);left;have s:(r%((left.map D.int).length:Nat)).toNat<left.length:=by have:=ϒ r w;simp at this⊢;lia
  refine wOpt_of (a:=.int left[(r%((left.map D.int).length:Nat)).toNat]) (by simp[s]) ?_;generalize(r%((left.map D.int).length:Nat)).toNat=j at s;left;change by simp[List.length_eraseIdx];split<;>lia
  left;refine zaF rfl ?_;left;refine zam rfl ?_;left;change by simp;lia
  left;refine zaF rfl ?_;left;right;left;refine⟨left.eraseIdx j,b++[left[j]],_,_,rfl,⟨_,rfl⟩,?_,?_,by simp[l],λx f=>?_⟩;show St.mk (S.frz++S.new) _ _=_;simp[zgB];rw[List.length_eraseIdx_of_lt s];lia;have:x∈b++left:=by rcases mem_append.mp f with f|f;rcases mem_append.mp f with f|f;exact mem_append_left _ f;rw[mem_singleton.mp f];exact mem_append_right _ (List.getElem_mem _);exact mem_append_right _ (List.mem_of_mem_eraseIdx f)
  exact p x this;intro r T y;cases r with|rt d=>exact y.elim| nx o=>let⟨left,b,x,v,rfl,⟨r,rfl⟩,rfl,u,l,p⟩:=y;left;refine zcg (i:=0) rfl ?_ ⟨b,⟨rfl,rfl⟩,by simp at l;lia,λx f=>p x (mem_append_left _ f)⟩;rw[zaH];intro d G;let⟨x,_,rfl⟩:=mem_map.mp G;rfl
 let⟨d,T,e,lr,⟨rfl,rfl⟩,h⟩:=W_ex key;exact⟨lr,e,h⟩
abbrev kD(k:K3):D:=.tup [.int k.1,pD k.2.1,.int k.2.2]
structure SlOk(m:Nat)(k:K3):Prop where
 t:1<=k.1/\k.1<=30
 p:∃w:Int,k.2.1=[w]/\0<=w/\w<(m:Int)/\k.2.2≠w
 h:0<=k.2.2/\k.2.2<(m:Int)
def zkx(m:Nat):((List.range (m:Int).toNat).map λ(k:Nat)=>D.int (k:Int))=(rg (m:Nat)).map .int:=by unfold rg;rw[map_map];rfl
def zd3{f:Nat->D}{c j:Nat}{y:D}(h:((List.range c).map f)[j]?=Φ y):j<c/\y=f j:=by let⟨a,b⟩:=Α.mp h;simp at a b;exact⟨a,b.symm⟩
def zoD{m:Nat}{o:Int}(h:o∈rg (m:Nat)):0<=o/\o<(m:Int):=by let⟨k,a,rfl⟩:=mem_map.mp h;have:=mem_range.mp a;lia
abbrev slz(m:Nat)(t i:Int):List K3:=((rg (m:Nat)).filter λo=>!decide (o=i)).map λo=>(t,[i],o)
def zkh{m:Nat}(a:m<=7)(t i:Int):(slz m t i).length<=7:=by unfold slz;rw[length_map];refine le_trans (ϛ _ _) ?_;unfold rg;rw[length_map,length_range];lia
def zoq{m:Nat}{t i:Int}(d:1<=t)(e:t<=30)(b:0<=i/\i<(m:Int)):∀k∈slz m t i,SlOk m k:=by intro k f;let⟨o,g,rfl⟩:=mem_map.mp f;let⟨a,c⟩:=mem_filter.mp g;exact⟨⟨d,e⟩,⟨i,rfl,b.1,b.2,by simpa using c⟩,zoD a⟩
def zu6{cf:CF}{T:R.St}{m:Nat}{t i:Int}(v:Option D):zax [0] (evT cf (.cmp .NotEq J0 J2)) (evE cf (.tup #[J1,.tup #[J2],J0])) ((List.range (m:Int).toNat).map λ(k:Nat)=>D.int (k:Int)) [v,Φ (.int t),Φ (.int i)] T=.ok ((slz m t i).map kD) T:=by rw[zkx,zaT (λd=>match d with|.int o=>!decide (o=i)|_=>Δ) (λd=>match d with|.int o=>kD (t,[i],o)|d=>d) _ v (λz a=>?_) (λz a _=>?_)];rw[zbb (λo=>!decide (o=i)) (λo=>kD (t,[i],o)) _ _ (λo=>rfl) (λo=>rfl)];unfold slz;rw[map_map];rfl;let⟨o,_,rfl⟩:=mem_map.mp a;refine W.eq (wT_W _ ?_);left;exact⟨by simp,rfl⟩;let⟨o,_,rfl⟩:=mem_map.mp a;refine W.eq (wE_W _ ?_);left;right;left;right;left;exact⟨rfl,rfl⟩
def zu7{cf:CF}{T:R.St}{m:Nat}{i:Int}(v:Option D):zax [0] (evT cf (.cmp .NotEq J0 J1)) (evE cf (.tup #[Y1,.tup #[J1],J0])) ((List.range (m:Int).toNat).map λ(k:Nat)=>D.int (k:Int)) [v,Φ (.int i)] T=.ok ((slz m 1 i).map kD) T:=by rw[zkx,zaT (λd=>match d with|.int o=>!decide (o=i)|_=>Δ) (λd=>match d with|.int o=>kD (1,[i],o)|d=>d) _ v (λz a=>?_) (λz a _=>?_)];rw[zbb (λo=>!decide (o=i)) (λo=>kD (1,[i],o)) _ _ (λo=>rfl) (λo=>rfl)];unfold slz;rw[map_map];rfl;let⟨o,_,rfl⟩:=mem_map.mp a;refine W.eq (wT_W _ ?_);left;exact⟨by simp,rfl⟩;let⟨o,_,rfl⟩:=mem_map.mp a;refine W.eq (wE_W _ ?_);left;right;left;right;left;exact⟨rfl,rfl⟩
abbrev sEx:CS:=.ifS (.or (.cmp .NotEq (.bin .Mod J4 Y3) Y1) (.cmp .Eq J5 (.bin .Mod (.bin .FloorDiv (.bin .Sub J4 Y2) Y3) J0))) (.expr (.ext J3 (.comp 1 [4,5] [0] (.rng1 J0) (.cmp .NotEq J0 J2) (.tup #[J1,.tup #[J2],J0]))) .nil) .nil .nil
noncomputable abbrev Es5(m:Nat)(b s:Int)(L:Nat)(t i:Option D):Ev:=[Φ (.int (m:Nat)),Φ (.int b),Φ (.int s),Φ (.ref L),t,i]
def zp6{cf:CF}{S:R.St}{m:Nat}{b s t i:Int}{ks:List K3}(q:1<=m)(j:m<=7)(l:1<=t)(n:t<=30)(o:0<=i/\i<(m:Int))(h:∀k∈ks,SlOk m k)(r:ks.length<=1000) :
  W (exS cf sEx (Es5 m b s ((S.frz++S.new).length+0) (Φ (.int t)) (Φ (.int i))) ⟨S.frz++S.new,[.lst (ks.map kD)],[]⟩) λf T=>f=.nx (Es5 m b s ((S.frz++S.new).length+0) (Φ (.int t)) (Φ (.int i)))/\∃a:List K3,T=⟨S.frz++S.new,[.lst (a.map kD)],[]⟩/\(∀k∈a,SlOk m k)/\a.length<=ks.length+7:=by
 have u:=zkh j t i;have d:wS cf (.expr (.ext J3 (.comp 1 [4,5] [0] (.rng1 J0) (.cmp .NotEq J0 J2) (.tup #[J1,.tup #[J2],J0]))) .nil) (Es5 m b s ((S.frz++S.new).length+0) (Φ (.int t)) (Φ (.int i))) ⟨S.frz++S.new,[.lst (ks.map kD)],[]⟩ λf T=>f=.nx (Es5 m b s ((S.frz++S.new).length+0) (Φ (.int t)) (Φ (.int i)))/\∃a:List K3,T=⟨S.frz++S.new,[.lst (a.map kD)],[]⟩/\(∀k∈a,SlOk m k)/\a.length<=ks.length+7:=by
  left;refine zam rfl ?_;left;change by lia
  left;refine zat ?_;refine W.of (zu6 Ψ) ?_;change by simp![length_map];lia
  left;refine zam rfl ?_;left;change by simp![length_append,length_map];lia
  left;refine zaF rfl ?_;left;refine⟨rfl,ks++slz m t i,?_,λk g=>?_,by rw[length_append];lia⟩;rw[map_append];rfl;rcases mem_append.mp g with g|g;exact h k g;exact zoq l n o k g
 have e:(λf T=>f=Fl.nx (Es5 m b s ((S.frz++S.new).length+0) (Φ (.int t)) (Φ (.int i)))/\∃a:List K3,T=(⟨S.frz++S.new,[.lst (a.map kD)],[]⟩:R.St)/\(∀k∈a,SlOk m k)/\a.length<=ks.length+7) (Fl.nx (Es5 m b s ((S.frz++S.new).length+0) (Φ (.int t)) (Φ (.int i)))) ⟨S.frz++S.new,[.lst (ks.map kD)],[]⟩:=⟨rfl,ks,rfl,h,by lia⟩;refine wS_W _ ?_;unfold sEx;left;right;left;refine zi8 (λc=>?_) (λc=>?_);exact d;left;right;left;change by lia
 left;refine zbJ (λp=>?_) (λp=>?_);exact d;exact e
def zpZ{n:Nat}{S:R.St}{m b:Nat}{s:Int}(A:1<=m)(x:m<=7)(b2:b<=3)(hs:0<=s/\s<(m:Int)) :
  ∃ks:List K3,app (callF prog (n+1)) 27 [.int (m:Nat),.int (b:Nat),.int s] S=.ok (.ref S.len) (S.push (.lst (ks.map kD)))/\ks.length<=600/\∀k∈ks,SlOk m k:=by
 have key:W (app (callF prog (n+1)) 27 [.int (m:Nat),.int (b:Nat),.int s] S) λd T=>∃ks:List K3,(d=.ref S.len/\T=S.push (.lst (ks.map kD)))/\ks.length<=600/\∀k∈ks,SlOk m k:=by
  refine zf7 (F:=zeo) rfl rfl ?_;have M:=zkh x 1 s;left;change by lia
  left;refine zat ?_;refine W.of (zu7 Ψ) ?_;change by show(List.map kD (slz m 1 s)).length<=_;rw[length_map];lia
  left;change by show(List.map kD (slz m 1 s)).length<=_;rw[length_map];lia
  left;change by unfold zfD;simp
  left;change⟨by decide,by decide,Int.le_trans (by decide) (show(0:Int)<=2+3*((b:Int)+1) by lia),Int.lt_of_le_of_lt (show 2+3*((b:Int)+1)<=41 by lia) (by decide)⟩;refine zat ?_;refine W.mono (zaE (λi c T=>(∃u v,c=Es5 m (b:Nat) s ((S.frz++S.new).length+0) u v)/\∃ks:List K3,T=⟨S.frz++S.new,[.lst (ks.map kD)],[]⟩/\(∀k∈ks,SlOk m k)/\ks.length<=7+49*i) (λ_ _=>False) _ 0 _ _ ⟨⟨Ψ,Ψ,rfl⟩,slz m 1 s,rfl,zoq (by lia) (by lia) hs,by lia⟩ ?_) ?_;rintro i z c T B ⟨⟨u,v,rfl⟩,ks,rfl,p,q⟩;rw[zero_add]at q⊢;let⟨N,rfl⟩:=zd3 B;refine⟨Es5 m (b:Nat) s ((S.frz++S.new).length+0) (Φ (.int (2+(i:Int)))) v,rfl,?_⟩;generalize r:Es5 m (b:Nat) s ((S.frz++S.new).length+0) (Φ (.int (2+(i:Int)))) v=C;refine wS_W _ ?_;subst r;left;change by lia
  left;refine zat ?_;refine W.mono (zaE (λj c T=>(∃v,c=Es5 m (b:Nat) s ((S.frz++S.new).length+0) (Φ (.int (2+(i:Int)))) v)/\∃a:List K3,T=⟨S.frz++S.new,[.lst (a.map kD)],[]⟩/\(∀k∈a,SlOk m k)/\a.length<=ks.length+7*j) (λ_ _=>False) _ 0 _ _ ⟨⟨v,rfl⟩,ks,rfl,p,by lia⟩ ?_) ?_;rintro j y c T E ⟨⟨G,rfl⟩,a,rfl,g,l⟩;rw[zero_add]at l⊢;let⟨O,rfl⟩:=zd3 E;refine⟨_,rfl,?_⟩;refine(zp6 (cf:=callF prog n) (S:=S) (b:=(b:Nat)) (s:=s) (t:=2+(i:Int)) (i:=(j:Int)) (ks:=a) A x (by lia) (by lia) (by lia) g (by lia)).mono λf T I=>?_;let⟨rfl,w,rfl,J,Q⟩:=I;exact⟨⟨_,rfl⟩,w,rfl,J,by lia⟩;intro f T o;cases f with|rt d=>exact o.elim| nx c=>let⟨⟨G,rfl⟩,a,rfl,g,l⟩:=o;simp![length_map,length_range]at l;refine⟨⟨_,_,rfl⟩,a,rfl,g,by lia⟩
  intro f T o;cases f with|rt d=>exact o.elim| nx c=>let⟨⟨u,v,rfl⟩,ks,rfl,p,q⟩:=o;simp![length_map,length_range]at q;left;refine zcg (i:=0) rfl ?_ ⟨ks,⟨rfl,rfl⟩,by lia,p⟩;rw[zaH];intro d L;let⟨k,_,rfl⟩:=mem_map.mp L;unfold kD;rw[zcs];simp[flats,flat]
 let⟨d,T,e,ks,⟨rfl,rfl⟩,h⟩:=W_ex key;exact⟨ks,e,h⟩
abbrev Wb(o:Option Int):Prop:=∀i,o=Φ i->-10^60<i/\i<10^60
def zpe{f n:Nat}{ds:List D}{S:R.St}{P:Option Int->Prop}(h:W (app (callF prog n) f ds S) λd T=>∃o,(d=oD o/\T=S)/\P o):∃o,app (callF prog n) f ds S=.ok (oD o) S/\P o:=by let⟨d,T,e,o,⟨rfl,rfl⟩,p⟩:=W_ex h;exact⟨o,e,p⟩
def zks{n:Nat}{S:R.St}{c w:Int}(a:-10^60<w/\w<10^60):∃o,app (callF prog (n+1)) 24 [.int c,.int w] S=.ok (oD o) S/\Wb o:=by
 refine zpe ?_;refine zf7 (F:=ze4) rfl rfl ?_;left;right;left;right;left;refine zbJ (λb=>?_) (λb=>?_);left;exact zak rfl ⟨Ψ,⟨rfl,rfl⟩,λi h=>by exact nS h⟩;left;right;left;refine zbJ (λd=>?_) (λd=>?_);left;right;left;exact zak rfl ⟨Φ _,⟨rfl,rfl⟩,λi h=>by cases h;constructor<;>lia⟩;left;right;left;refine zbJ (λe=>?_) (λe=>?_);left;exact zak rfl ⟨Φ w,⟨rfl,rfl⟩,λi h=>by cases h;exact a⟩;left;right;left;refine zbJ (λf=>?_) (λf=>?_)
 . left
   repeat (first|(right;conv=>whnf)|(refine zam rfl ?_;conv=>whnf)|(refine zaF rfl ?_;conv=>whnf)|(refine zaA (by assumption) ?_;conv=>whnf))
   refine zak rfl ⟨Φ _,⟨rfl,rfl⟩,λi h=>?_⟩;cases h;have e1:(10:Int)^Int.toNat 60=10^60:=rfl;rw[e1];constructor<;>lia
 left;right;left;exact zak rfl ⟨Φ _,⟨rfl,rfl⟩,λi h=>by cases h;constructor<;>lia⟩
def zpY{n:Nat}{S:R.St}{c w:Int}(e:0<=c)(f:c<12)(a:-10^60<w/\w<10^60):∃o,app (callF prog (n+1)) 29 [.int c,.int w] S=.ok (oD o) S/\Wb o:=by refine zpe ?_;refine zf7 (F:=zen) rfl rfl ?_;left;refine zbJ (λb=>?_) (λb=>?_);left;exact zak rfl ⟨Ψ,⟨rfl,rfl⟩,λi h=>by exact nS h⟩;left;refine zbJ (λd=>?_) (λd=>?_);left;exact zak rfl ⟨Φ w,⟨rfl,rfl⟩,λi h=>by cases h;exact a⟩;left;exact zak rfl ⟨Φ _,⟨rfl,rfl⟩,λi h=>by cases h;constructor<;>lia⟩
def zp5{n:Nat}{S:R.St}{ns:List Int}{a k:Nat}:∃c:Int,app (callF prog (n+2)) 28 [.fix (ns.map .int),.int (a:Nat),.int (k:Nat)] S=.ok (.int c) S/\0<=c/\c<12:=by
 have key:W (app (callF prog (n+2)) 28 [.fix (ns.map .int),.int (a:Nat),.int (k:Nat)] S) λd T=>∃c:Int,(d=.int c/\T=S)/\0<=c/\c<12:=by
  refine zf7 (F:=zeq) rfl rfl ?_;left;right;left;rw[show((a:Nat):Int)+((k:Nat):Int)/50=((a+k/50:Nat):Int) by lia];specialize zcv (n:=n) (k:=a+k/50);left;right;left;change by lia
  left;refine zat ?_;refine W.mono (zaE (λi b T=>(∃x v,b=[Φ (.fix (ns.map .int)),Φ (.int (a:Nat)),Φ (.int (k:Nat)),Φ (.int x),v])/\T=S.enter) (λ_ _=>False) _ 0 _ _ ⟨⟨_,_,rfl⟩,rfl⟩ ?_) ?_;rintro i z b T j ⟨⟨x,v,rfl⟩,rfl⟩;refine⟨_,rfl,wS_W _ ?_⟩;left;right;left;exact⟨⟨_,_,rfl⟩,rfl⟩;intro f T g;cases f with|rt d=>exact g.elim| nx b=>let⟨⟨x,v,rfl⟩,rfl⟩:=g;left;right;left;exact zak rfl ⟨_,⟨rfl,rfl⟩,by lia,by lia⟩
 let⟨d,T,e,c,⟨rfl,rfl⟩,h⟩:=W_ex key;exact⟨c,e,h⟩
def zmG{m:Nat}{k:K3}{o:Option Int}(h:SlOk m k)(w:Wb o):LyOk (m:Nat) (k,o):=by let⟨x,e,b,c,d⟩:=h.p;refine⟨h.t.1,h.t.2,?_,?_,?_,?_,h.h,?_,w⟩;show 1<=k.2.1.length;rw[e];simp;show k.2.1.length<=7;rw[e];simp;intro i a;have a:i∈k.2.1:=a;rw[e]at a;rw[mem_singleton.mp a];exact⟨b,c⟩;show k.2.1.Nodup;rw[e];simp;show k.2.2∉k.2.1;rw[e];simpa using d
noncomputable abbrev El11(ns:List Int)(q r:Nat)(w:Int)(a b c d e f:Option D):Ev:=[Φ (.fix (ns.map .int)),Φ (.int 7),Φ (.ref q),Φ (.ref r),Φ (.int w),a,b,c,d,e,f]
structure Ll(S:R.St)(m:Nat)(ks:List K3)(zs:List Ly)(T:R.St):Prop where
 e:T=⟨S.frz++S.new,[.lst (ks.map kD),.lst (zs.map lD)],[]⟩
 ok:∀z∈zs,LyOk (m:Nat) z
def Ll.add{S:R.St}{m:Nat}{ks:List K3}{zs:List Ly}{k:K3}{o:Option Int}(h:∀z∈zs,LyOk (m:Nat) z)(b:SlOk m k)(c:Wb o):∀z∈zs++[(k,o)],LyOk (m:Nat) z:=by intro z a;rcases mem_append.mp a with a|a;exact h z a;rw[mem_singleton.mp a];exact zmG b c
abbrev pLi(lr:List Int):D->Bool|.tup [_,.tup [.int w],_]=>decide (w∈lr)|_=>Δ
def ztZ{cf:CF}{T:R.St}{lr:List Int}{ks:List K3}{r m:Nat}(b:T.get r=Φ (.lst (lr.map .int)))(c:∀k∈ks,SlOk m k)(v:Option D):zax [0] (evT cf (.cmp .In (.ix (.ix J0 Y1) (.neg Y1)) J1)) (evE cf J0) (ks.map kD) [v,Φ (.ref r)] T=.ok ((ks.filter λk=>pLi lr (kD k)).map kD) T:=by rw[zaT (pLi lr) (λd=>d) _ v (λz a=>?_) (λz a _=>rfl),List.map_id',List.filter_map];rfl;let⟨k,f,rfl⟩:=mem_map.mp a;let⟨w,e,_⟩:=(c k f).p;let⟨t,p,o⟩:=k;dsimp only at e;subst e;refine W.eq (wT_W _ ?_);left;exists(show atI [D.int t,pD [w],.int o] 1=Φ (pD [w]) from rfl);left;exists(show atI [D.int w] (-1)=Φ (.int w) from rfl);left;exists zoY b w;left;exact⟨rfl,rfl⟩
def zmp{ks:List K3}{i:Int}(b:0<=i)(c:i<ks.length):∃k,k∈ks/\atI (ks.map kD) i=Φ (kD k):=by
 have a:i.toNat<ks.length:=by lia
 refine⟨ks[i.toNat],List.getElem_mem _,?_⟩;have:=zh7 (xs:=ks.map kD) (k:=i.toNat) (x:=kD ks[i.toNat]) (by simp[a])
 rwa [show((i.toNat:Nat):Int)=i by lia]at this
section
variable{S:R.St}{n m q r:Nat}{ns lr:List Int}{w:Int}{ks:List K3}{zs:List Ly}
noncomputable abbrev Tl(S:R.St)(ks:List K3)(zs:List Ly):R.St:=⟨S.frz++S.new,[.lst (ks.map kD),.lst (zs.map lD)],[]⟩
noncomputable abbrev L0(S:R.St):D:=.ref ((S.frz++S.new).length+0)
noncomputable abbrev L1(S:R.St):D:=.ref ((S.frz++S.new).length+1)
abbrev b1:CS:=(.asg 9 (.call 28 0 #[J0,.bin .Add J1 Y1,J8]) (.ifS (.cmp .Gt J9 Y0) (.expr (.mt .append J7 #[.bin .Add (.ix J5 J8) (.tup #[.call 29 0 #[J9,J4]])]) .nil) .nil .nil))
def zvb{i:Nat}{e d b:Option D}(g:-10^60<w/\w<10^60)(h:∀k∈ks,SlOk m k)(hz:∀z∈zs,LyOk (m:Nat) z)(y:i<ks.length)(A:zs.length<=5000) :
  W (exS (callF prog (n+2)) b1 (El11 ns q r w (Φ (L0 S)) e (Φ (L1 S)) (Φ (.int (i:Nat))) d b) (Tl S ks zs)) λf T=>(∃d,f=.nx (El11 ns q r w (Φ (L0 S)) e (Φ (L1 S)) (Φ (.int (i:Nat))) d b))/\∃zs':List Ly,T=Tl S ks zs'/\(∀z∈zs',LyOk (m:Nat) z)/\zs'.length<=zs.length+1:=by
 let⟨c,j,l,p⟩:=zp5 (n:=n) (S:=Tl S ks zs) (ns:=ns) (a:=8) (k:=i);let⟨o,s,t⟩:=zpY (n:=n+1) (S:=Tl S ks zs) (w:=w) l p g;let⟨k,u,v⟩:=zmp (ks:=ks) (i:=(i:Int)) (by lia) (by lia);refine wS_W _ ?_;unfold b1;left;specialize j;left;refine zbJ (λx=>?_) (λx=>?_);left;refine zam rfl ?_;left;refine zam rfl ?_;left;exists v;left;specialize s;left;right;left;right;left;refine zam rfl ?_;left;change by simp;lia
 left;refine zaF rfl ?_;left;refine⟨⟨_,rfl⟩,zs++[(k,o)],?_,Ll.add (S:=S) (ks:=ks) hz (h k u) t,by simp⟩;show _=(⟨S.frz++S.new,[.lst (ks.map kD),.lst ((zs++[(k,o)]).map lD)],[]⟩:R.St);rw[map_append];rfl;left;exact⟨⟨_,rfl⟩,zs,rfl,hz,by lia⟩
abbrev b2:CS:=(.asg 10 (.bin .Mod (.bin .Add (.bin .Add (.bin .Mult J10 Y2203) (.bin .Mult Y41 J8)) Y2011) Y8000009) (.expr (.mt .append J7 #[.bin .Add (.ix J5 J8) (.tup #[.call 24 0 #[.bin .FloorDiv J10 Y2,J4]])]) .nil))
def zva{i:Nat}{g:Int}{a b:Option D}(d:-10^60<w/\w<10^60)(e:∀k∈ks,SlOk m k)(hz:∀z∈zs,LyOk (m:Nat) z)(t:i<ks.length)(u:zs.length<=5000) :
  W (exS (callF prog (n+2)) b2 (El11 ns q r w (Φ (L0 S)) a (Φ (L1 S)) (Φ (.int (i:Nat))) b (Φ (.int g))) (Tl S ks zs)) λf T=>(∃g:Int,f=.nx (El11 ns q r w (Φ (L0 S)) a (Φ (L1 S)) (Φ (.int (i:Nat))) b (Φ (.int g))))/\∃zs':List Ly,T=Tl S ks zs'/\(∀z∈zs',LyOk (m:Nat) z)/\zs'.length<=zs.length+1:=by
 let⟨k,h,j⟩:=zmp (ks:=ks) (i:=(i:Int)) (by lia) (by lia);refine wS_W _ ?_;unfold b2;left;change by unfold zfD;simp
 left;change by unfold zfD;simp
 left;right;left;generalize v:(g*2203+41*(i:Int)+2011)%8000009=l;let⟨o,p,s⟩:=zks (n:=n+1) (S:=Tl S ks zs) (c:=l/2) d;refine zam rfl ?_;left;refine zam rfl ?_;left;exists j;left;right;left;specialize p;left;right;left;right;left;refine zam rfl ?_;left;change by simp;lia
 left;refine zaF rfl ?_;left;refine⟨⟨_,rfl⟩,zs++[(k,o)],?_,Ll.add (S:=S) (ks:=ks) hz (e k h) s,by simp⟩;show _=(⟨S.frz++S.new,[.lst (ks.map kD),.lst ((zs++[(k,o)]).map lD)],[]⟩:R.St);rw[map_append];rfl
abbrev b3:CS:=(.ifS (.cmp .Gt (.bi .len #[J5]) Y0) (.expr (.mt .append J7 #[.bin .Add (.ix J5 (.bin .Mod (.bin .Add J6 J8) (.bi .len #[J5]))) (.tup #[.call 24 0 #[.call 23 0 #[J0,J8],J4]])]) .nil) .nil .nil)
def zu9{i:Nat}{g:Int}{d a:Option D}(e:-10^60<w/\w<10^60)(h:∀k∈ks,SlOk m k)(hz:∀z∈zs,LyOk (m:Nat) z)(t:zs.length<=5000) :
  W (exS (callF prog (n+2)) b3 (El11 ns q r w (Φ (L0 S)) (Φ (.int g)) (Φ (L1 S)) (Φ (.int (i:Nat))) d a) (Tl S ks zs)) λf T=>f=.nx (El11 ns q r w (Φ (L0 S)) (Φ (.int g)) (Φ (L1 S)) (Φ (.int (i:Nat))) d a)/\∃zs':List Ly,T=Tl S ks zs'/\(∀z∈zs',LyOk (m:Nat) z)/\zs'.length<=zs.length+1:=by
 refine wS_W _ ?_;unfold b3;left;refine zam rfl ?_;left;refine zbJ (λc=>?_) (λc=>?_);have b:(0:Int)<((ks.map kD).length:Nat):=c;have u:(0:Int)<(ks.length:Nat):=by simpa using b
 let⟨o,j,l⟩:=zks (n:=n+1) (S:=Tl S ks zs) (c:=zaL ns i) e;let⟨k,p,s⟩:=zmp (ks:=ks) (i:=(g+(i:Int))%((ks.map kD).length:Nat)) (emod_nonneg _ (by lia)) (by have:=ϒ (g+(i:Int)) b;rw[length_map]at this⊢;lia);left;refine zam rfl ?_;left;refine zam rfl ?_;left;change by exact b
 left;refine zam rfl ?_;left;exists s;left;specialize zcv (n:=n+1) (k:=i);left;specialize j;left;right;left;right;left;refine zam rfl ?_;left;change by simp;lia
 left;refine zaF rfl ?_;left;refine⟨rfl,zs++[(k,o)],?_,Ll.add (S:=S) (ks:=ks) hz (h k p) l,by simp⟩;show _=(⟨S.frz++S.new,[.lst (ks.map kD),.lst ((zs++[(k,o)]).map lD)],[]⟩:R.St);rw[map_append];rfl;left;exact⟨rfl,zs,rfl,hz,by lia⟩
end
section
variable{S:R.St}{n m q r:Nat}{ns lr:List Int}{w:Int}{ks:List K3}
def zjI(N:Nat)(zs:List Ly):flats N (zs.map lD)=Γ:=znX N zs
def zp2(hn:ns.length<=63)(B:-10^60<w/\w<10^60)(N:S.get q=Φ (.lst (ks.map kD)))(O:S.get r=Φ (.lst (lr.map .int)))(J:∀k∈ks,SlOk m k)(Q:ks.length<=600) :
  ∃zs:List Ly,app (callF prog (n+3)) 30 [.fix (ns.map .int),.int 7,.ref q,.ref r,.int w] S=.ok (.ref S.len) (S.push (.lst (zs.map lD)))/\zs.length<=1000/\∀z∈zs,LyOk (m:Nat) z:=by
 have key:W (app (callF prog (n+3)) 30 [.fix (ns.map .int),.int 7,.ref q,.ref r,.int w] S) λd T=>∃zs:List Ly,(d=.ref S.len/\T=S.push (.lst (zs.map lD)))/\zs.length<=1000/\∀z∈zs,LyOk (m:Nat) z:=by
  refine zf7 (F:=ze6) rfl rfl ?_;generalize C:(ks.filter λk=>pLi lr (kD k))=a;have sl:a.length<=600:=by rw[<-C];exact le_trans (ϛ _ _) Q
  have E:∀k∈a,SlOk m k:=by rw[<-C];exact λk h=>J k (mem_filter.mp h).1
  left;refine zaA N ?_;left;refine zat ?_;refine W.of (ztZ (T:=({S.enter with lk:=[q]}:R.St)) (show S.enter.get r=_ by rw[zbe];exact O) J Ψ) ?_;rw[C];change by show(List.map kD a).length<=_;rw[length_map];lia
  left;change by show(List.map kD a).length<=_;rw[length_map];lia
  left;specialize zcv (n:=n+1) (k:=7);left;right;left;right;left;have fin:∀(zs:List Ly),zs.length<=1000->(∀z∈zs,LyOk (m:Nat) z)->wFin S (.rt (L1 S)) (Tl S a zs) λd T=>∃zs:List Ly,(d=.ref S.len/\T=S.push (.lst (zs.map lD)))/\zs.length<=1000/\∀z∈zs,LyOk (m:Nat) z:=λzs c j=>zcg (i:=1) rfl (zjI _ zs) ⟨zs,⟨rfl,rfl⟩,c,j⟩;refine zbJ (λU=>?_) (λU=>?_);left;refine zam rfl ?_;left;change by simp;lia
  left;refine zat ?_;refine W.mono (zaE (λi l T=>(∃G o p b,l=El11 ns q r w (Φ (L0 S)) G (Φ (L1 S)) o p b)/\∃zs:List Ly,T=Tl S a zs/\(∀z∈zs,LyOk (m:Nat) z)/\zs.length<=i) (λ_ _=>False) _ 0 _ _ ⟨⟨_,_,_,_,rfl⟩,[],rfl,(λz h=>by cases h),le_refl _⟩ ?_) ?_;rintro i z l T v ⟨⟨G,o,p,b,rfl⟩,zs,rfl,c,j⟩;rw[zero_add]at j⊢;let⟨u,rfl⟩:=zd3 v;have u:i<a.length:=by simpa using u
  refine⟨_,rfl,?_⟩;refine(zvb (n:=n) (m:=m) (ns:=ns) (q:=q) (r:=r) (S:=S) B E c u (by lia)).mono λf T x=>?_;let⟨⟨y9,rfl⟩,s,rfl,A,L⟩:=x;exact⟨⟨_,_,_,_,rfl⟩,s,rfl,A,by lia⟩;intro f T t;cases f with|rt d=>exact t.elim| nx l=>let⟨⟨G,o,p,b,rfl⟩,zs,rfl,c,j⟩:=t;simp at j;left;exact fin zs (by lia) c
  left;right;left;right;left;right;left;right;left;refine zam rfl ?_;left;change by unfold zfD;rw[Ϝ,decide_eq_true_eq];left;lia
  left;right;left;have Y:((List.map kD a).length:Int)=(a.length:Int):=by rw[length_map]
  have x0:0<=zaL ns 7/2/100%3/\zaL ns 7/2/100%3<=2:=by lia
  have y0:0<=zaL ns 7/2/100%3*((List.map kD a).length:Int)/2/\zaL ns 7/2/100%3*((List.map kD a).length:Int)/2<=(a.length:Int):=by
   rw[Y];have h:zaL ns 7/2/100%3=0\/zaL ns 7/2/100%3=1\/zaL ns 7/2/100%3=2:=by lia
   rcases h with h|h|h<;>rw[h]<;>lia
  generalize zaL ns 7/2/100%3*((List.map kD a).length:Int)/2=y at y0;generalize zaL ns 7/2%900007=z9;generalize zaL ns 7/2=M;change by lia
  left;refine zat ?_;refine W.mono (zaE (λi l T=>(∃(o p:Option D) (g:Int),l=El11 ns q r w (Φ (L0 S)) (Φ (.int M)) (Φ (L1 S)) o p (Φ (.int g)))/\∃zs:List Ly,T=Tl S a zs/\(∀z∈zs,LyOk (m:Nat) z)/\zs.length<=i) (λ_ _=>False) _ 0 _ _ ⟨⟨_,_,_,rfl⟩,[],rfl,(λz h=>by cases h),le_refl _⟩ ?_) ?_;rintro i z l T v ⟨⟨o,p,g,rfl⟩,zs,rfl,c,j⟩;rw[zero_add]at j⊢;let⟨u,rfl⟩:=zd3 v;refine⟨_,rfl,?_⟩;refine(zva (n:=n) (m:=m) (ns:=ns) (q:=q) (r:=r) (S:=S) B E c (by lia) (by lia)).mono λf T x=>?_;let⟨⟨g',rfl⟩,s,rfl,A,L⟩:=x;exact⟨⟨_,_,_,rfl⟩,s,rfl,A,by lia⟩;intro f T t;cases f with
  |rt d=>exact t.elim| nx l=>
   let⟨⟨o,p,g,rfl⟩,zs,rfl,c,j⟩:=t;simp at j;left;have I:¬(70:Int)<((List.map D.int ns).length:Nat):=by rw[length_map];lia
   simp![if_neg I];change⟨by decide,by decide,Int.le_trans (by decide) (Int.natCast_nonneg _),Int.lt_of_le_of_lt (show _<=(63:Int) by rw[length_map];lia) (by decide)⟩;refine zat ?_;refine W.mono (zaE (λi l T=>(∃(o p b:Option D),l=El11 ns q r w (Φ (L0 S)) (Φ (.int M)) (Φ (L1 S)) o p b)/\∃zs:List Ly,T=Tl S a zs/\(∀z∈zs,LyOk (m:Nat) z)/\zs.length<=600+i) (λ_ _=>False) _ 0 _ _ ⟨⟨_,_,_,rfl⟩,zs,rfl,c,by lia⟩ ?_) ?_;rintro i z l T v ⟨⟨o,p,b,rfl⟩,zs,rfl,c,j⟩;rw[zero_add]at j⊢;let⟨u,rfl⟩:=zd3 v;rw[length_map]at u;refine⟨_,rfl,?_⟩;have e5:(7:Int)+1+(i:Int)=((8+i:Nat):Int):=by lia
   rw[e5];refine(zu9 (n:=n) (m:=m) (ns:=ns) (q:=q) (r:=r) (S:=S) (i:=8+i) B E c (by lia)).mono λf T x=>?_;let⟨rfl,s,rfl,A,L⟩:=x;exact⟨⟨_,_,_,rfl⟩,s,rfl,A,by lia⟩;intro f T t;cases f with|rt d=>exact t.elim| nx l=>let⟨⟨o,p,b,rfl⟩,zs,rfl,c,j⟩:=t;simp at j;left;exact fin zs (by lia) c
 let⟨d,T,e,zs,⟨rfl,rfl⟩,h⟩:=W_ex key;exact⟨zs,e,h⟩
end
section
variable(m:Nat)(s:Int)(lz:List Int)(zs:List Ly)
abbrev kL(t:Int):Nat->List Kh->List Ly
 |_,[]=>[]|k,h::a=>(toL (m:Nat) (k:Nat) (decide (((k:Nat):Int)∈wrZ (m:Nat) s t))).map (λo=>((t,[((k:Nat):Int)],o),bnd lz zs k t o h.1))++kL t (k+1) a
end
def zko{m N M:Nat}{b s w:Int}{lz:List Int}{zs:List Ly}(t:Int):∀(hs:List Kh)(k:Nat),((kt m b s w N M lz zs).said t k hs).map (leD t)=(kL m s lz zs t k hs).map lD
 | [],_=>rfl| h::hs,k=>by show((kt m b s w N M lz zs).say k t h++(kt m b s w N M lz zs).said t (k+1) hs).map (leD t)=_;rw[kL,map_append,map_append,zko t hs (k+1)];congr 1;show((toL _ _ _).map _).map _=_;rw[map_map,map_map];rfl
abbrev kLs(m:Nat)(b s w:Int)(N M:Nat)(lz:List Int)(zs:List Ly):Nat->Nat->List Kh->List Ly
 |_,0,_=>[]|t,c+1,a=>kL m s lz zs t 0 a++kLs m b s w N M lz zs (t+1) c (rnd (kt m b s w N M lz zs) t a)
def zhL{m N M:Nat}{b s w:Int}{lz:List Int}{zs:List Ly}:∀(c t:Nat)(hs:List Kh),lets (kt m b s w N M lz zs) t c hs=(kLs m b s w N M lz zs t c hs).map lD
 |0,_,_=>rfl| c+1,t,hs=>by show((kt m b s w N M lz zs).said t 0 hs).map (leD t)++lets (kt m b s w N M lz zs) (t+1) c (rnd (kt m b s w N M lz zs) t hs)=_;rw[kLs,map_append];exact congr (congrArg _ (zko (t:Int) hs 0)) (zhL c (t+1) _)
section
variable{S:R.St}{n a hl N m:Nat}{b s w:Int}{hs:List Kh}{Ls:List D}
def zqN(P:Pl S a hl N m b s w hs Ls)(hl:Ls.length<=10000):appW (callF prog (n+1)) 53 [.ref a] S=.ok (.ref S.len) (S.push (.lst Ls)):=by
 let⟨d,p,c⟩:=P.p;refine zbE (F:=zcy) rfl rfl ?_;left;exists zaK p rfl;left;exists c;left;change show Ls.length<=16777216 by lia
 left;exact⟨rfl,rfl⟩
def ztn{n:Nat}{S:R.St}{x:Nat}{m b i s k:Int}{w h:Option Int}{l:Nat}(e:S.get x=Φ (hD m b i s w h k l))(c:i≠s):appW (callF prog (n+1)) 41 [.ref x] S=.ok (oD h) S:=by refine zbE (F:=zbI) rfl rfl ?_;left;exists zaK e rfl;left;exists zaK e rfl;left;rw[show decide (i=s)=Δ from decide_eq_false c];left;exists zaK e rfl;left;exact⟨rfl,rfl⟩
def zto{j:Nat}{h:Kh}(P:Pl S a hl N m b s w hs Ls)(e:hs[j]?=Φ h)(d:((j:Nat):Int)≠s):appW (callF prog (n+5)) 51 [.ref a,.int (j:Nat)] S=.ok (oD h.1) S:=by
 let⟨g,p,i⟩:=P.p;have f:j<m:=by rw[<-P.l];exact(Α.mp e).1
 let⟨c,k,l⟩:=P.k j h e;refine zbE (F:=zc4) rfl rfl ?_;left;exists zau p;left;exists rfl;left;change rfl;left;specialize(m_at (n:=n) P f);left;exists zau c;left;exists rfl;left;change rfl;left;specialize ztn (n:=n+3) c d;left;exact⟨rfl,rfl⟩
end
abbrev cD(l:Ly):D:=.tup [.int l.1.1,pD l.1.2.1,oD l.2]
abbrev cmZ(h:Int)(a:List Ly):List Ly:=a.filter λz=>decide (z.1.2.2=h)
abbrev toE:CE:=.ix J0 Y2
abbrev cmE:CE:=.tup #[.ix J0 Y0,.ix J0 Y1,.ix J0 Y3]
def zde(z:Ly):atI [D.int z.1.1,pD z.1.2.1,.int z.1.2.2,oD z.2] 0=Φ (.int z.1.1)/\atI [D.int z.1.1,pD z.1.2.1,.int z.1.2.2,oD z.2] 1=Φ (pD z.1.2.1)/\atI [D.int z.1.1,pD z.1.2.1,.int z.1.2.2,oD z.2] 2=Φ (.int z.1.2.2)/\atI [D.int z.1.1,pD z.1.2.1,.int z.1.2.2,oD z.2] 3=Φ (oD z.2):=⟨rfl,rfl,rfl,rfl⟩
def ztW{cf:CF}{T:R.St}(h:Int)(z:Ly):evT cf (.cmp .Eq toE J1) [Φ (lD z),Φ (.int h)] T=.ok (decide (z.1.2.2=h)) T:=by refine W.eq (wT_W _ ?_);unfold toE lD;left;exists(zde z).2.2.1;left;exact⟨rfl,rfl⟩
def ztX{cf:CF}{T:R.St}(h:Int)(z:Ly):evE cf cmE [Φ (lD z),Φ (.int h)] T=.ok (cD z) T:=by refine W.eq (wE_W _ ?_);unfold cmE lD;left;exists(zde z).1;left;exists(zde z).2.1;left;exists(zde z).2.2.2;left;right;left;exact⟨rfl,rfl⟩
def zc7{T:R.St}{c:Ev->R.St->Out Bool}{e:Ev->R.St->Out D}{h:Int}(p:Ly->Bool)(f:Ly->D)(g:∀z,c [Φ (lD z),Φ (.int h)] T=.ok (p z) T)(i:∀z,e [Φ (lD z),Φ (.int h)] T=.ok (f z) T) :
  ∀(a:List Ly)(v:Option D),zax [0] c e (a.map lD) [v,Φ (.int h)] T=.ok ((a.filter p).map f) T
 | [],_=>rfl| z::a,v=>by rw[Ν,zax];show(c [Φ (lD z),Φ (.int h)] T).bind (λb j=>if b then(e [Φ (lD z),Φ (.int h)] j).bind λd k=>(zax [0] c e (a.map lD) [Φ (lD z),Φ (.int h)] k).bind λl m=>.ok (d::l) m else zax [0] c e (a.map lD) [Φ (lD z),Φ (.int h)] j)=_;rw[g,zas];cases y:p z with| true=>rw[if_pos rfl,i,zas,zc7 p f g i a,zas,List.filter_cons_of_pos (by simpa using y)];rfl| false=>rw[if_neg (by decide),zc7 p f g i a,List.filter_cons_of_neg (by simpa using y)]
def zrc(N:Nat)(z:Ly):flat N (cD z)=Γ:=by unfold cD;rw[zcs,zaH];intro d a;simp![mem_cons,not_mem_nil,or_false]at a;rcases a with rfl|rfl|rfl;rfl;exact zhX N _;exact zlY N _
def zei{a:Type}{f:a->D}(N:Nat)(h:∀z,flat N (f z)=Γ)(zs:List a):flats N (zs.map f)=Γ:=by rw[zaH];intro d b;let⟨z,_,rfl⟩:=mem_map.mp b;exact h z
section
variable{S:R.St}{n l:Nat}{h:Int}{Zs:List Ly}
def zoC(e:S.get l=Φ (.lst (Zs.map lD)))(b:Zs.length<=10000):app (callF prog (n+1)) 31 [.ref l,.int h] S=.ok (.ref S.len) (S.push (.lst ((cmZ h Zs).map cD))):=by
 have a:(cmZ h Zs).length<=Zs.length:=ϛ _ _;refine zaY (F:=ze7) rfl rfl ?_;left;refine zaA e ?_;left;refine zat ?_;refine W.of (zc7 (c:=evT (callF prog n) (.cmp .Eq toE J1)) (e:=evE (callF prog n) cmE) _ _ (ztW h) (ztX h) Zs Ψ) ?_;change by rw[length_map];exact le_trans a (by lia)
 left;change by show(List.map cD (cmZ h Zs)).length<=_;rw[length_map];lia
 left;exact zcg (i:=0) rfl (zei _ (zrc _) _) ⟨rfl,rfl⟩
abbrev wrE:CE:=.ix (.ix J0 Y1) (.neg Y1)
abbrev lasZ(z:Ly):Int:=z.1.2.1.getLastD 0
abbrev wnZ(h:Int)(Zs:List Ly):List Ly:=Zs.filter λz=>decide (lasZ z=h)
def zpd{xs:List Int}(h:xs≠[]):atI (xs.map D.int) (-1)=Φ (.int (xs.getLastD 0)):=by unfold atI R.ixN;have b:0<xs.length:=List.length_pos_iff.mpr h;rw[if_neg (by decide),if_pos (by rw[length_map];lia),length_map];show(xs.map D.int)[(-1+(xs.length:Int)).toNat]?=_;rw[show(-1+(xs.length:Int)).toNat=xs.length-1 by lia,getElem?_map,<-List.getLast?_eq_getElem?,List.getLastD_eq_getLast?];let⟨x,a⟩:=List.getLast?_isSome.mpr h |> Option.isSome_iff_exists.mp;rw[a];rfl
def wr_t{cf:CF}{T:R.St}(h:Int)(z:Ly)(hz:z.1.2.1≠[]):evT cf (.cmp .Eq wrE J1) [Φ (lD z),Φ (.int h)] T=.ok (decide (lasZ z=h)) T:=by refine W.eq (wT_W _ ?_);unfold wrE lD;left;exists(zde z).2.1;left;exists zpd hz;left;exact⟨rfl,rfl⟩
def zdK{T:R.St}{c:Ev->R.St->Out Bool}{e:Ev->R.St->Out D}{h:Int}(p:Ly->Bool)(f:Ly->D) :
  ∀(Zs:List Ly),(∀z∈Zs,c [Φ (lD z),Φ (.int h)] T=.ok (p z) T)->(∀z,e [Φ (lD z),Φ (.int h)] T=.ok (f z) T)->∀(v:Option D),zax [0] c e (Zs.map lD) [v,Φ (.int h)] T=.ok ((Zs.filter p).map f) T
 | [],_,_,_=>rfl| z::Zs,a,g,v=>by have i:=zdK p f Zs (λz k=>a z (Κ _ k)) g;rw[Ν,zax];show(c [Φ (lD z),Φ (.int h)] T).bind (λb j=>if b then(e [Φ (lD z),Φ (.int h)] j).bind λd m=>(zax [0] c e (Zs.map lD) [Φ (lD z),Φ (.int h)] m).bind λo q=>.ok (d::o) q else zax [0] c e (Zs.map lD) [Φ (lD z),Φ (.int h)] j)=_;rw[a z Μ,zas];cases y:p z with| true=>rw[if_pos rfl,g,zas,i,zas,List.filter_cons_of_pos (by simpa using y)];rfl| false=>rw[if_neg (by decide),i,List.filter_cons_of_neg (by simpa using y)]
def zgh(e:S.get l=Φ (.lst (Zs.map lD)))(f:Zs.length<=10000)(a:∀z∈Zs,z.1.2.1≠[]):app (callF prog (n+1)) 32 [.ref l,.int h] S=.ok (.ref S.len) (S.push (.lst ((wnZ h Zs).map lD))):=by
 have b:(wnZ h Zs).length<=Zs.length:=ϛ _ _;refine zaY (F:=zc2) rfl rfl ?_;left;refine zaA e ?_;left;refine zat ?_;refine W.of (zdK (c:=evT (callF prog n) (.cmp .Eq wrE J1)) (e:=evE (callF prog n) J0) _ _ Zs (λz d=>wr_t h z (a z d)) (λz=>rfl) Ψ) ?_;change by rw[length_map];exact le_trans b (by lia)
 left;change by show(List.map lD (wnZ h Zs)).length<=_;rw[length_map];lia
 left;exact zcg (i:=0) rfl (zei _ (zfV _) _) ⟨rfl,rfl⟩
end
def zpt{d:Type}(xs:List d):stp xs (-1)=xs.reverse:=by
 unfold stp stpI PySem.sliceRange;rw[if_neg (show ¬((-1:Int)>0) by decide),if_neg (show ¬((-1:Int)>0) by decide)];dsimp only;rw[if_neg (show ¬((-1:Int)>0) by decide)];have e:(if(xs.length:Int)-1 > -1 then((xs.length:Int)-1 - -1 - -1-1)/(- -1) else 0).toNat=xs.length:=by rw[show(- -1:Int)=1 by decide,Int.ediv_one];split<;>lia
 rw[e];refine ext_getElem? λi=>?_;have a:∀c,c<=xs.length->((List.range c).map λ(k:Nat)=>(((xs.length:Int)-1) + -1*(k:Int)).toNat).filterMap (xs[·]?)=(xs.drop (xs.length-c)).reverse:=by
  intro c;induction c with
  |zero=>intro _;simp| succ c f=>
   intro g;rw[List.range_succ,map_append,List.filterMap_append,f (by lia)];have b:xs.length-(c+1)<xs.length:=by lia
   rw[List.drop_eq_getElem_cons b,List.reverse_cons,show xs.length-(c+1)+1=xs.length-c by lia];congr 1;rw[Ν,map_nil,show(((xs.length:Int)-1) + -1*(c:Int)).toNat=xs.length-(c+1) by lia,List.filterMap_cons,Ι b];rfl
 rw[a _ (le_refl _),Nat.sub_self,List.drop_zero]
abbrev fstZ(h c:Int)(z:Ly):Option Ly:=if z.1.2.2=h then Φ ((z.1.1,z.1.2.1,h),Φ (c%1000000000)) else if c%3=1/\lasZ z≠h then Φ (z.1,Φ (c%1009)) else Ψ
abbrev sB1:CS:=.ifS (.cmp .Eq (.ix J4 Y2) J1) (.expr (.mt .append J3 #[.tup #[.ix J4 Y0,.ix J4 Y1,J1,.bin .Mod J2 (.bin .Pow Y10 Y9)]]) .nil) (.ifS (.and (.cmp .Eq (.bin .Mod J2 Y3) Y1) (.cmp .NotEq (.ix (.ix J4 Y1) (.neg Y1)) J1)) (.expr (.mt .append J3 #[.tup #[.ix J4 Y0,.ix J4 Y1,.ix J4 Y2,.bin .Mod J2 Y1009]]) .nil) .nil .nil) .nil
abbrev sB2:CS:=.ifS (.cmp .Eq (.ix J4 Y2) J1) (.expr (.mt .append J3 #[J4]) .nil) .nil .nil
noncomputable abbrev Ex(l r:Nat)(h c:Int)(v:Option D):Ev:=[Φ (.ref l),Φ (.int h),Φ (.int c),Φ (.ref r),v]
def zmL:c_law_second.body=.asg 3 (.lst .nil) (.forS [4] (.val J0) sB1 (.forS [4] (.val (.slS J0 (.neg Y1))) sB2 (.ret J3 .nil))):=rfl
section
variable{cf:CF}{F:List MO}{lk:List Nat}{l:Nat}{h c:Int}
def zt6{z:Ly}{a:List Ly}(hz:z.1.2.1≠[])(g:a.length<=10000)(f:lk.contains (F.length+0)=Δ) :
  exS cf sB1 (Ex l (F.length+0) h c (Φ (lD z))) ⟨F,[.lst (a.map lD)],lk⟩=.ok (.nx (Ex l (F.length+0) h c (Φ (lD z)))) ⟨F,[.lst ((a++(fstZ h c z).toList).map lD)],lk⟩:=by
 refine W.eq (wS_W _ ?_);unfold sB1 lD fstZ;left;exists(zde z).2.2.1;left;by_cases b:z.1.2.2=h;rw[show decide (z.1.2.2=h)=Γ from decide_eq_true b,if_pos b];left;refine zam rfl ?_;left;exists(zde z).1;left;exists(zde z).2.1;left;right;left;right;left;right;left;refine zam rfl ?_;left;change by simp;lia
 left;refine zaF f ?_;left;refine⟨rfl,?_⟩;simp[lD,oD];rw[show decide (z.1.2.2=h)=Δ from decide_eq_false b,if_neg b];left;right;left;by_cases d:c%3=1;rw[show decide (c%3=1)=Γ from decide_eq_true d];left;exists(zde z).2.1;left;exists zpd hz;left;by_cases e:lasZ z=h;rw[show(!decide (z.1.2.1.getLastD 0=h))=Δ by rw[decide_eq_true (show z.1.2.1.getLastD 0=h from e)];rfl,if_neg (λy=>y.2 e)];left;refine⟨rfl,?_⟩;simp;rw[show(!decide (z.1.2.1.getLastD 0=h))=Γ by rw[decide_eq_false (show ¬z.1.2.1.getLastD 0=h from e)];rfl,if_pos ⟨d,e⟩];left;refine zam rfl ?_;left;exists(zde z).1;left;exists(zde z).2.1;left;exists(zde z).2.2.1;left;right;left;right;left;refine zam rfl ?_;left;change by simp;lia
 left;refine zaF f ?_;left;refine⟨rfl,?_⟩;simp[lD,oD];rw[show decide (c%3=1)=Δ from decide_eq_false d,if_neg (λy=>d y.1)];left;refine⟨rfl,?_⟩;simp
def zt5{z:Ly}{a:List Ly}{X:List D}(g:a.length<=10000)(f:lk.contains (F.length+0)=Δ) :
  exS cf sB2 (Ex l (F.length+0) h c (Φ (lD z))) ⟨F,[.lst (a.map lD),.lst X],lk⟩=.ok (.nx (Ex l (F.length+0) h c (Φ (lD z)))) ⟨F,[.lst ((a++(if z.1.2.2=h then [z] else [])).map lD),.lst X],lk⟩:=by
 refine W.eq (wS_W _ ?_);unfold sB2;generalize e:lD z=y;have b:y=.tup [.int z.1.1,pD z.1.2.1,.int z.1.2.2,oD z.2]:=by rw[<-e];rfl
 left;rw[b];left;exists(zde z).2.2.1;left;by_cases d:z.1.2.2=h;rw[show decide (z.1.2.2=h)=Γ from decide_eq_true d,if_pos d];left;refine zam rfl ?_;left;refine zam rfl ?_;left;change by simp;lia
 left;refine zaF f ?_;left;rw[<-b,<-e];refine⟨rfl,?_⟩;simp;rw[show decide (z.1.2.2=h)=Δ from decide_eq_false d,if_neg d];left;rw[<-b,<-e];refine⟨rfl,?_⟩;simp
def ztz:∀(b a:List Ly)(v:Option D),(∀z∈b,z.1.2.1≠[])->a.length+b.length<=10000->lk.contains (F.length+0)=Δ->
  ∃d,zaM [4] (exS cf sB1) (b.map lD) (Ex l (F.length+0) h c v) ⟨F,[.lst (a.map lD)],lk⟩=.ok (.nx (Ex l (F.length+0) h c d)) ⟨F,[.lst ((a++b.filterMap (fstZ h c)).map lD)],lk⟩
 | [],a,v,_,_,_=>⟨v,by rw[List.filterMap_nil,Ϥ];rfl⟩| z::b,a,v,f,i,g=>by
  rw[Χ]at i;have k:((fstZ h c z).toList).length<=1:=by cases fstZ h c z<;>simp
  let⟨d,e⟩:=ztz b (a++(fstZ h c z).toList) (Φ (lD z)) (λz j=>f z (Κ _ j)) (by rw[length_append];lia) g;refine⟨d,?_⟩;rw[Ν,zaM];show(exS cf sB1 (Ex l (F.length+0) h c (Φ (lD z))) _).bind _=_;rw[zt6 (f z Μ) (by lia) g,zas];show zaM [4] (exS cf sB1) (b.map lD) (Ex l (F.length+0) h c (Φ (lD z))) _=_;rw[e,append_assoc];congr 5;rw[List.filterMap_cons];cases fstZ h c z<;>simp
def zty{X:List D}:∀(b a:List Ly)(v:Option D),a.length+b.length<=10000->lk.contains (F.length+0)=Δ->
  ∃d,zaM [4] (exS cf sB2) (b.map lD) (Ex l (F.length+0) h c v) ⟨F,[.lst (a.map lD),.lst X],lk⟩=.ok (.nx (Ex l (F.length+0) h c d)) ⟨F,[.lst ((a++cmZ h b).map lD),.lst X],lk⟩
 | [],a,v,_,_=>⟨v,by show _=Out.ok _ ⟨F,[.lst ((a++[]).map lD),.lst X],lk⟩;rw[Ϥ];rfl⟩| z::b,a,v,g,f=>by rw[Χ]at g;let⟨d,e⟩:=zty b (a++(if z.1.2.2=h then [z] else [])) (Φ (lD z)) (by rw[length_append];split<;>simp<;>lia) f;refine⟨d,?_⟩;rw[Ν,zaM];show(exS cf sB2 (Ex l (F.length+0) h c (Φ (lD z))) _).bind _=_;rw[zt5 (by lia) f,zas];show zaM [4] (exS cf sB2) (b.map lD) (Ex l (F.length+0) h c (Φ (lD z))) _=_;rw[e,append_assoc];congr 5;unfold cmZ;by_cases i:z.1.2.2=h<;>simp[i]
end
abbrev secZ(h c:Int)(a:List Ly):List Ly:=a.filterMap (fstZ h c)++cmZ h a.reverse
def zmW{S:R.St}{n l:Nat}{h c:Int}{a:List Ly}(e:S.get l=Φ (.lst (a.map lD)))(m:a.length<=4000)(b:∀z∈a,z.1.2.1≠[]):app (callF prog (n+1)) 33 [.ref l,.int h,.int c] S=.ok (.ref S.len) (S.push (.lst ((secZ h c a).map lD))):=by
 have o:=get_lt e;have g:([l]:List Nat).contains ((S.frz++S.new).length+0)=Δ:=by rw[zd7];simp;lia
 have p:(a.filterMap (fstZ h c)).length<=a.length:=List.length_filterMap_le _ _;rw[zmu (F:=c_law_second) rfl rfl rfl,zmL];show(exS (callF prog n) _ [Φ (.ref l),Φ (.int h),Φ (.int c),Ψ,Ψ] S.enter).bind _=_;let⟨j,e1⟩:=ztz (cf:=callF prog n) (F:=S.frz++S.new) (lk:=[l]) (l:=l) (h:=h) (c:=c) a [] Ψ b (by simp;lia) g;let⟨q,e2⟩:=zty (cf:=callF prog n) (F:=S.frz++S.new) (lk:=[(S.frz++S.new).length+1]) (l:=l) (h:=h) (c:=c) (X:=a.reverse.map lD) a.reverse (a.filterMap (fstZ h c)) j (by simp;lia) (by simp);have key:W (exS (callF prog n) (.asg 3 (.lst .nil) (.forS [4] (.val J0) sB1 (.forS [4] (.val (.slS J0 (.neg Y1))) sB2 (.ret J3 .nil)))) [Φ (.ref l),Φ (.int h),Φ (.int c),Ψ,Ψ] S.enter) λf T=>f=.rt (.ref ((S.frz++S.new).length+0))/\T=⟨S.frz++S.new,[.lst ((secZ h c a).map lD),.lst (a.reverse.map lD)],[]⟩:=by
  refine wS_W _ ?_;left;right;left;refine zaA e ?_;left;refine zat ?_;refine W.of e1 ?_;left;change by decide
  left;refine zaA e ?_;left;rw[zpt,<-List.map_reverse];change by simp;lia
  left;refine zam rfl ?_;left;refine zat ?_;refine W.of e2 ?_;left;exact⟨rfl,rfl⟩
 let⟨f,T,k,rfl,rfl⟩:=W_ex key;rw[k,zas];refine W.eq ?_;have:=zcg (S:=S) (nw:=[.lst ((secZ h c a).map lD),.lst (a.reverse.map lD)]) (lk:=[]) (i:=0) (ds:=(secZ h c a).map lD) (Q:=λd T=>d=.ref S.len/\T=S.push (.lst ((secZ h c a).map lD))) rfl (zei _ (zfV _) _) ⟨rfl,rfl⟩;unfold wFin at this;exact this
abbrev frsZ(k:K3)(x:Option Int):List Ly->Option Int
 | []=>x|z::a=>if z.1=k then z.2 else frsZ k x a
def zfM(k:K3):∀(A B:List Ly)(x:Option Int),zbZ k x (A++B)=zbZ k (zbZ k x A) B
 | [],_,_=>rfl|a::A,B,x=>zfM k A B _
def zeg(k:K3)(x:Option Int):∀(A B:List Ly),frsZ k x (A++B)=frsZ k (frsZ k x B) A
 | [],_=>rfl| a::A,B=>by
  show(if a.1=k then a.2 else frsZ k x (A++B))=if a.1=k then a.2 else frsZ k (frsZ k x B) A
  rw[zeg k x A B]
def zlW(k:K3)(x:Option Int):∀(A:List Ly),(∀z∈A,z.1≠k)->frsZ k x A=x
 | [],_=>rfl| a::A,h=>by show(if a.1=k then a.2 else frsZ k x A)=x;rw[if_neg (h a Μ),zlW k x A λz b=>h z (Κ _ b)]
def zhM{k:K3}:∀(A:List Ly)(x:Option Int),zbZ k x (cmZ k.2.2 A)=zbZ k x A
 | [],_=>rfl| a::A,x=>by unfold cmZ;by_cases c:a.1.2.2=k.2.2;rw[List.filter_cons_of_pos (by simpa using c)];exact zhM A _;rw[List.filter_cons_of_neg (by simpa using c)];have:a.1≠k:=λe=>c (by rw[e]);show _=zbZ k (if a.1=k then a.2 else x) A;rw[if_neg this];exact zhM A x
def ziI(k:K3)(x:Option Int):∀(A:List Ly),zbZ k x A.reverse=frsZ k x A
 | []=>rfl| a::A=>by rw[List.reverse_cons,zfM,ziI k x A];rfl
def znG{k:K3}{c:Int}{a:List Ly}(x:Option Int):∃y,zbZ k x (secZ k.2.2 c a)=frsZ k y a:=⟨zbZ k x (a.filterMap (fstZ k.2.2 c)),by unfold secZ;rw[zfM,zhM,ziI]⟩
section
variable{m:Nat}{s:Int}{lz:List Int}{zs:List Ly}{t:Int}
def ziL{z:Ly}:∀{hs:List Kh}{k:Nat},z∈kL m s lz zs t k hs->∃(i:Nat) (h:Kh),hs[i]?=Φ h/\∃o∈toL (m:Nat) ((k+i:Nat):Int) (decide ((((k+i:Nat):Nat):Int)∈wrZ (m:Nat) s t)),z=((t,[((k+i:Nat):Int)],o),bnd lz zs (k+i) t o h.1)
 | [],_,h=>by cases h| h::hs,k,a=>by rcases mem_append.mp a with a|a;let⟨o,b,rfl⟩:=mem_map.mp a;exact⟨0,h,rfl,o,b,rfl⟩;let⟨i,c,e,o,b,rfl⟩:=ziL a;rw[show k+1+i=k+(i+1) by lia]at b⊢;exact⟨i+1,c,e,o,b,rfl⟩
def zoW{i o:Int}(x:Option Int):∀(hs:List Kh)(k j:Nat)(h:Kh),i=((k+j:Nat):Int)->hs[j]?=Φ h->o∈toL (m:Nat) i (decide (i∈wrZ (m:Nat) s t))->frsZ (t,[i],o) x (kL m s lz zs t k hs)=bnd lz zs (k+j) t o h.1
 | [],_,_,_,_,e,_=>by simp at e| g::hs,k,0,h,a,e,b=>by
  cases e;show frsZ _ x (_++_)=_;rw[zeg];generalize frsZ (t,[i],o) x (kL m s lz zs t (k+1) hs)=y;have a:i=((k:Nat):Int):=a;subst a;generalize toL (m:Nat) ((k:Nat):Int) (decide (((k:Nat):Int)∈wrZ (m:Nat) s t))=os at b;induction os with
  |nil=>cases b
  |cons d os f=>show(if _ then _ else _)=_;by_cases c:d=o;subst c;rw[if_pos rfl];rfl;rw[if_neg (λe=>c (by injection e with _ e;injection e))];exact f ((mem_cons.mp b).resolve_left λe=>c e.symm)
 |g::hs,k,j+1,h,a,e,b=>by show frsZ _ x (_++_)=_;rw[zeg,zlW];have:=zoW x hs (k+1) j h (by rw[a];lia) (by simpa using e) b;rw[this,show k+1+j=k+(j+1) by lia];intro z l e;let⟨d,_,rfl⟩:=mem_map.mp l;injection e with _ e;injection e with e _;injection e with e _;lia
def znN{t' i o:Int}{x:Option Int}{hs:List Kh}{k:Nat}(h:t'≠t):frsZ (t',[i],o) x (kL m s lz zs t k hs)=x:=by refine zlW _ _ _ λz a e=>?_;let⟨_,_,_,_,_,rfl⟩:=ziL a;injection e with e;exact h e.symm
end
def ze2(h:Int)(A B:List Ly):cmZ h (A++B)=cmZ h A++cmZ h B:=List.filter_append ..
def zib(h:Int)(A B:List Ly):wnZ h (A++B)=wnZ h A++wnZ h B:=List.filter_append ..
section
variable{m N M N' M':Nat}{b s w w':Int}{lz lz':List Int}{zs zs':List Ly}
def ztV{t:Int}{h:Int}:∀(hs c:List Kh)(k:Nat),hs.length=c.length->(∀(j:Nat) g g',hs[j]?=Φ g->c[j]?=Φ g'->h∈toL (m:Nat) ((k+j:Nat):Int) (decide ((((k+j:Nat):Nat):Int)∈wrZ (m:Nat) s t))->bnd lz zs (k+j) t h g.1=bnd lz' zs' (k+j) t h g'.1)->
  cmZ h (kL m s lz zs t k hs)=cmZ h (kL m s lz' zs' t k c)
 | [],[],_,_,_=>rfl| [],_::_,_,e,_=>by cases e|_::_,[],_,e,_=>by cases e| g::hs,g'::c,k,e,H=>by
  show cmZ h (_++_)=cmZ h (_++_);rw[ze2,ze2,ztV hs c (k+1) (by simpa using e) λj a f e1 e2 d=>by rw[show k+1+j=k+(j+1) by lia]at d⊢;exact H (j+1) a f e1 e2 d];congr 1;have H0:=H 0 g g' rfl rfl;rw[Nat.add_zero]at H0;generalize toL (m:Nat) ((k:Nat):Int) (decide (((k:Nat):Int)∈wrZ (m:Nat) s t))=os at H0;unfold cmZ;rw[List.filter_map,List.filter_map];refine Τ λo d=>?_;have:o∈os/\o=h:=by simpa using d
  let⟨i,rfl⟩:=this;rw[H0 i]
def zrE{t:Int}{h:Int}:∀(hs c:List Kh)(k:Nat),hs.length=c.length->(∀(j:Nat) g g',hs[j]?=Φ g->c[j]?=Φ g'->(((k+j:Nat):Nat):Int)=h->∀o,bnd lz zs (k+j) t o g.1=bnd lz' zs' (k+j) t o g'.1)->
  wnZ h (kL m s lz zs t k hs)=wnZ h (kL m s lz' zs' t k c)
 | [],[],_,_,_=>rfl| [],_::_,_,e,_=>by cases e|_::_,[],_,e,_=>by cases e| g::hs,g'::c,k,e,H=>by
  show wnZ h (_++_)=wnZ h (_++_);rw[zib,zib,zrE hs c (k+1) (by simpa using e) λj a f e1 e2 d=>by rw[show k+1+j=k+(j+1) by lia]at d⊢;exact H (j+1) a f e1 e2 d];congr 1;have H0:=H 0 g g' rfl rfl;rw[Nat.add_zero]at H0;unfold wnZ;rw[List.filter_map,List.filter_map];refine Τ λo d=>?_;have:((k:Nat):Int)=h:=by have:=(mem_filter.mp d).2;exact of_decide_eq_true this
  rw[H0 this o]
def zij(t:Int):∀(hs:List Kh)(k:Nat),(kt m b s w N M lz zs).said t k hs=(kL m s lz zs t k hs).map λz=>⟨z.1.2.1,z.1.2.2,oD z.2⟩
 | [],_=>rfl| h::hs,k=>by show(kt m b s w N M lz zs).say k t h++(kt m b s w N M lz zs).said t (k+1) hs=_;rw[kL,map_append];refine congr (congrArg _ ?_) (zij t hs (k+1));show(toL _ _ _).map _=_;rw[map_map];rfl
def zml(t:Int)(hs:List Kh)(k:Nat)(h:Int):box ((kt m b s w N M lz zs).said t k hs) h=(cmZ h (kL m s lz zs t k hs)).map λz=>(z.1.2.1,oD z.2):=by rw[zij];unfold box cmZ;rw[List.filter_map,map_map];rfl
def zgQ(V:Town)(t:Int)(Ls:List Row):∀(hs:List V.H)(k j:Nat),(zbt V t Ls k hs)[j]?=(hs[j]?).map λh=>V.hear (k+j) t h (box Ls ((k+j:Nat):Int))
 | [],_,_=>by simp[zbt]|h::hs,k,0=>by simp[zbt]| h::hs,k,j+1=>by show(zbt V t Ls (k+1) hs)[j]?=_;rw[zgQ V t Ls hs (k+1) j,show k+1+j=k+(j+1) by lia];rfl
def zhq(t:Int)(hs:List Kh)(j:Nat):(rnd (kt m b s w N M lz zs) t hs)[j]?=(hs[j]?).map λh=>(kt m b s w N M lz zs).hear j t h (box ((kt m b s w N M lz zs).said t 0 hs) (j:Nat)):=by have:=zgQ (kt m b s w N M lz zs) t ((kt m b s w N M lz zs).said t 0 hs) hs 0 j;rw[zero_add]at this;exact this
def zdN(t:Int)(hs:List Kh):(rnd (kt m b s w N M lz zs) t hs).length=hs.length:=zcr ..
def alike{h:Nat}:∀(c t:Nat)(hs a:List Kh),hs.length=m->a.length=m->hs[h]?=a[h]?->
  (∀(d:Nat)(i:Nat),t<=d->d<t+c->i<m->((h:Nat):Int)∈toL (m:Nat) ((i:Nat):Int) (decide (((i:Nat):Int)∈wrZ (m:Nat) s (d:Int)))->∀x,∃y,bnd lz' zs' i (d:Int) (h:Nat) x=frsZ ((d:Int),[((i:Nat):Int)],((h:Nat):Int)) y (kLs m b s w N M lz zs t c hs))->
  (rnds (kt m b s w N M lz zs) t c hs)[h]?=(rnds (kt m b s w' N' M' lz' zs') t c a)[h]?/\cmZ (h:Nat) (kLs m b s w N M lz zs t c hs)=cmZ (h:Nat) (kLs m b s w' N' M' lz' zs' t c a)/\
  (lbZ lz h=Δ->lbZ lz' h=Δ->wnZ (h:Nat) (kLs m b s w N M lz zs t c hs)=wnZ (h:Nat) (kLs m b s w' N' M' lz' zs' t c a))
 |0,_,_,_,_,_,e,_=>⟨e,rfl,λ_ _=>rfl⟩| c+1,t,hs,a,k,l,e,H=>by
  have same:cmZ (h:Nat) (kL m s lz zs (t:Int) 0 hs)=cmZ (h:Nat) (kL m s lz' zs' (t:Int) 0 a):=by refine ztV hs a 0 (by rw[k,l]) λj g n e1 e2 f=>?_;rw[zero_add]at f⊢;let⟨y,p⟩:=H t j (le_refl _) (by lia) (by rw[<-k];exact(Α.mp e1).1) f n.1;rw[p];show _=frsZ _ y (_++_);rw[zeg,zoW _ hs 0 j g (by rw[zero_add]) e1 f,zero_add]
  have st:(rnd (kt m b s w N M lz zs) (t:Int) hs)[h]?=(rnd (kt m b s w' N' M' lz' zs') (t:Int) a)[h]?:=by rw[zhq,zhq,zml,zml,same,e];rfl
  have q:=alike (h:=h) c (t+1) (rnd (kt m b s w N M lz zs) (t:Int) hs) (rnd (kt m b s w' N' M' lz' zs') (t:Int) a) ((zdN _ _).trans k) ((zdN _ _).trans l) st λd i A B v z x=>by let⟨y,p⟩:=H d i (by lia) (by lia) v z x;refine⟨y,p.trans ?_⟩;show frsZ _ y (_++_)=_;rw[zeg,znN (by lia)]
  refine⟨q.1,?_,λr u=>?_⟩;show cmZ _ (_++_)=cmZ _ (_++_);rw[ze2,ze2,same,q.2.1];show wnZ _ (_++_)=wnZ _ (_++_);rw[zib,zib,q.2.2 r u];congr 1;refine zrE hs a 0 (by rw[k,l]) λj g n e1 e2 f o=>?_;rw[zero_add]at f⊢;have:j=h:=by lia
  subst this;have:g=n:=by rw[e1,e2]at e;exact Option.some.inj e
  subst this;unfold bnd;rw[r,u];rfl
end
def zkg(l:List Int)(x:Int):x∈zey l↔x∈l:=(zbF l).mem_iff
def zl7(ns:List Int)(x:Int):x∈dedup ns↔x∈ns:=by
 unfold dedup;suffices ∀(l a:List Int),x∈l.foldl (λa x=>if a.contains x then a else a++[x]) a↔x∈a\/x∈l from by simpa using this ns []
 intro l;induction l with|nil=>intro a;simp| cons y l b=>intro a;rw[List.foldl_cons,b];by_cases c:a.contains y=Γ;rw[if_pos c];have:y∈a:=List.contains_iff_mem.mp c;simp![mem_cons];constructor;rintro(z|z);exact .inl z;exact .inr (.inr z);rintro(z|rfl|z);exact .inl z;exact .inl this;exact .inr z;rw[if_neg c];simp![mem_append,mem_singleton,mem_cons,or_assoc,not_mem_nil,or_false]
def zlj(hs:List Int)(x:Int):x∈liZ hs↔x∈hs:=by unfold liZ;rw[zkg,zl7]
abbrev WOk(o:Option Int):Prop:=∀v,o=Φ v->-10^60<v/\v<10^60
def zj8{m:Nat}{i o:Int}{y:Bool}(h:o∈toL (m:Nat) i y):0<=o/\o<(m:Int)/\o≠i:=by unfold toL at h;split at h;let⟨a,b⟩:=mem_filter.mp h;have:=zoD a;exact⟨this.1,this.2,by simpa using b⟩;cases h
def zlr{m:Int}{k:K3}:∀{zs:List Ly}{x:Option Int},(∀z∈zs,LyOk m z)->WOk x->WOk (zbZ k x zs)
 | [],_,_,h=>h| z::zs,x,a,h=>by show WOk (zbZ k (if z.1=k then z.2 else x) zs);refine zlr (m:=m) (λy b=>a y (Κ _ b)) ?_;split;exact(a z Μ).wd;exact h
def zo7{m:Int}{lz:List Int}{zs:List Ly}{j:Nat}{t o:Int}{x:Option Int}(hz:∀z∈zs,LyOk m z)(h:WOk x):WOk (bnd lz zs j t o x):=by unfold bnd;split;exact zlr hz h;exact h
def zr8{os:List (Option Int)}{k v:Int}(h:stZ os k=Φ v):Φ v∈os:=by
 unfold stZ at h;cases e:zbi (zah [] os) with
 |nil=>rw[e]at h;exact nS h
 |cons r a=>rw[e]at h;dsimp only at h;split at h;cases h;exact(counts_row.mp (tal_mem.mp (show(r.1,r.2)∈zbi (zah [] os) by rw[e];exact Μ))).1;exact nS h
def zr7{os:List (Option Int)}{k:Int}(h:∀o∈os,WOk o):WOk (stZ os k):=λv e=>h _ (zr8 e) v rfl
def zpi{s:Int}:∀{Ls:List (Int×Option Int)},(∀x∈Ls,WOk x.2)->WOk (Φ (wfZ s Ls))
 | [],_=>λv e=>by cases e;exact(by decide:-10^60<(0:Int)/\(0:Int)<10^60)| x::Ls,h=>by have a:=zpi (s:=s) (Ls:=Ls) λy b=>h y (Κ _ b);unfold wfZ;cases e:x.2 with|none=>exact a| some v=>dsimp only;split;intro u c;cases c;exact h x Μ v e;exact a
def zrD{h:Option Int}{Ls:List (Int×Option Int)}(b:WOk h)(c:∀x∈Ls,WOk x.2):∀o∈wsZ h Ls,WOk o:=by intro o a;rcases mem_cons.mp a with rfl|a;exact b;let⟨x,d,rfl⟩:=mem_map.mp a;exact c x d
def zuW{m b i s t:Int}{h:Option Int}{k:Int}{Ls:List (Int×Option Int)}(a:WOk h)(c:∀x∈Ls,WOk x.2):WOk (hrZ m b i s t h k Ls).1:=by unfold hrZ;split;dsimp only;split;exact zpi c;exact a;split;exact zr7 (zrD a c);split;exact zr7 (zrD a c);dsimp only;unfold kgZ;split;exact a;split;exact zpi c;intro v e;cases h with|none=>cases e;decide|some u=>exact a v e
section
variable{m N M:Nat}{b s w:Int}{lz:List Int}{zs:List Ly}
def zuO{t:Int}{hs:List Kh}{k:Nat}(hz:∀z∈zs,LyOk (m:Nat) z)(a:1<=t)(t2:t<=30)(p:k+hs.length=m)(c:∀h∈hs,WOk h.1):∀z∈kL m s lz zs t k hs,LyOk (m:Nat) z:=by intro z h;let⟨i,g,e,o,d,rfl⟩:=ziL h;have q:=(Α.mp e).1;let⟨f,j,l⟩:=zj8 d;refine⟨a,t2,le_refl 1,by show 1<=7;decide,λx n=>?_,by simp,⟨f,j⟩,by simpa using l,zo7 hz (c g (mem_of_getElem? e))⟩;rw[mem_singleton.mp n];lia
def zsF{t:Int}{hs:List Kh}(hz:∀z∈zs,LyOk (m:Nat) z)(d:∀h∈hs,WOk h.1):∀h∈rnd (kt m b s w N M lz zs) t hs,WOk h.1:=by
 intro h l;let⟨j,n⟩:=List.mem_iff_getElem?.mp l;have e:=zhq (m:=m) (b:=b) (s:=s) (w:=w) (N:=N) (M:=M) (lz:=lz) (zs:=zs) t hs j;rw[n]at e;cases a:hs[j]? with
 |none=>rw[a]at e;cases e
 |some g=>rw[a]at e;have e:h=_:=Option.some.inj e;rw[e];refine zuW (d g (mem_of_getElem? a)) λx f=>?_;unfold cvL at f;let⟨y,k,rfl⟩:=mem_map.mp f;rw[zml]at k;let⟨z,c,rfl⟩:=mem_map.mp k;show WOk (unD (oD z.2));rw[zrP];let⟨i,p,q,o,_,rfl⟩:=ziL (mem_filter.mp c).1;exact zo7 hz (d p (mem_of_getElem? q))
def zlz(hz:∀z∈zs,LyOk (m:Nat) z):∀(c t:Nat)(hs:List Kh),1<=t->t+c<=31->hs.length=m->(∀h∈hs,WOk h.1)->∀z∈kLs m b s w N M lz zs t c hs,LyOk (m:Nat) z
 |0,_,_,_,_,_,_,z,h=>by cases h| c+1,t,hs,e,t2,d,a,z,h=>by rcases mem_append.mp h with h|h;exact zuO hz (by lia) (by lia) (by lia) a z h;exact zlz hz c (t+1) _ (by lia) (by lia) ((zdN _ _).trans d) (zsF hz a) z h
def zoV{t:Int}(a:m<=7):∀(hs:List Kh)(k:Nat),(kL m s lz zs t k hs).length<=7*hs.length
 | [],_=>by simp[kL]| h::hs,k=>by rw[kL,length_append,length_map,Χ];have:=zoV (t:=t) a hs (k+1);have:=zhm (m:=(m:Nat)) (i:=(k:Nat)) (y:=decide (((k:Nat):Int)∈wrZ (m:Nat) s t)) (by lia);lia
def zhP(a:m<=7):∀(c t:Nat)(hs:List Kh),hs.length=m->(kLs m b s w N M lz zs t c hs).length<=49*c
 |0,_,_,_=>by simp[kLs]| c+1,t,hs,d=>by rw[kLs,length_append];have:=zhP a c (t+1) (rnd (kt m b s w N M lz zs) (t:Int) hs) ((zdN _ _).trans d);have:=zoV (s:=s) (lz:=lz) (zs:=zs) (t:=(t:Int)) a hs 0;lia
def zo4{t h:Int}:∀(hs:List Kh)(k:Nat),(cmZ h (kL m s lz zs t k hs)).length<=hs.length
 | [],_=>by simp[kL,cmZ]| g::hs,k=>by
  rw[kL,ze2,length_append,Χ];have:=zo4 (t:=t) (h:=h) hs (k+1);have e:∀os:List Int,os.Pairwise (· < ·)->(cmZ h (os.map λo=>((t,[((k:Nat):Int)],o),bnd lz zs k t o g.1))).length<=1:=by
   intro os i;unfold cmZ;rw[List.filter_map,length_map];have hs:(os.filter ((λz:Ly=>decide (z.1.2.2=h))∘λo=>((t,[((k:Nat):Int)],o),bnd lz zs k t o g.1))).Pairwise (· < ·):=i.filter _;generalize c:os.filter ((λz:Ly=>decide (z.1.2.2=h))∘λo=>((t,[((k:Nat):Int)],o),bnd lz zs k t o g.1))=q at hs
   match q,hs,c with
   | [],_,_=>simp| [_],_,_=>simp| a::b::q,hs,c=>
    have d:a∈a::b::q:=by simp
    have f:b∈a::b::q:=by simp
    rw[<-c]at d f;have j:a=h:=of_decide_eq_true (mem_filter.mp d).2;have l:b=h:=of_decide_eq_true (mem_filter.mp f).2;have:=(ϥ.mp hs).1 b (by simp);lia
  have:=e _ (zj9 (m:Nat) (k:Nat) (decide (((k:Nat):Int)∈wrZ (m:Nat) s t)));lia
def zme(h:Int):∀(c t:Nat)(hs:List Kh),hs.length=m->(cmZ h (kLs m b s w N M lz zs t c hs)).length<=m*c
 |0,_,_,_=>by simp[kLs,cmZ]| c+1,t,hs,a=>by rw[kLs,ze2,length_append,Nat.mul_succ];have:=zme h c (t+1) (rnd (kt m b s w N M lz zs) (t:Int) hs) ((zdN _ _).trans a);have:=zo4 (s:=s) (lz:=lz) (zs:=zs) (m:=m) (t:=(t:Int)) (h:=h) hs 0;lia
end
def zlf{m:Int}{z:Ly}(h:LyOk m z){v:Int}(a:0<=v)(b:v<1000000000):LyOk m (z.1,Φ v):=⟨h.t1,h.t2,h.p1,h.p7,h.pi,h.pn,h.hi,h.hp,λi e=>by cases e;exact⟨Int.lt_of_lt_of_le (by decide) a,Int.lt_trans b (by decide)⟩⟩
def zov{m h c:Int}{b:List Ly}(d:∀z∈b,LyOk m z):∀z∈secZ h c b,LyOk m z:=by
 intro z a;rcases mem_append.mp a with a|a;let⟨y,g,e⟩:=List.mem_filterMap.mp a;have f:=d y g;unfold fstZ at e;split at e;rename_i i;cases e;have:((y.1.1,y.1.2.1,h):K3)=y.1:=by rw[<-i]
 rw[this];exact zlf f (emod_nonneg _ (by decide)) (ϒ _ (by decide));split at e;cases e;exact zlf f (emod_nonneg _ (by decide)) (Int.lt_trans (ϒ _ (by decide)) (by decide));exact nS e;exact d z (List.mem_reverse.mp (mem_filter.mp a).1)
def zpI(h c:Int)(a:List Ly):(secZ h c a).length<=a.length+(cmZ h a).length:=by unfold secZ cmZ;rw[length_append,List.filter_reverse,List.length_reverse];exact Nat.add_le_add_right (List.length_filterMap_le _ _) _
abbrev kE(a b c d e f:CE):CE:=.mk 2 50 "Kings" 0 #[.mk 3 55 "Setting" 0 #[a,b,c,d],e,f]
def zk9{f i j k q r:CE}{δ:Ev}{T T1:R.St}{m b l4 l6:Nat}{s w:Int}{lr:List Int}{zs:List Ly}
  (E:evEs (callF prog 13) #[f,i,j,k] δ T=.ok [.int (m:Nat),.int (b:Nat),.ref l4,.ref l6] T1)
  (G:∀U,evEs (callF prog 13) #[q,r] δ U=.ok [.int s,.int w] U) (t:∀l∈T1.lk,l<T1.len) (I:1<=m) (J:m<=7) (b5:b<=5)
  (B:T1.get l4=Φ (.lst (lr.map .int))) (C:T1.get l6=Φ (.lst (zs.map lD))) (d:lr.length<=60) (L:∀x∈lr,0<=x/\x<(m:Int)) (hz:zs.length<=1000) (u:∀z∈zs,LyOk (m:Nat) z) (hs:0<=s/\s<(m:Nat)) (O:-10^60<w/\w<10^60) :
  W (evE (callF prog 13) (kE f i j k q r) δ T) λx V=>∃a d N M,x=.ref a/\Pl V a d N m (b:Nat) s w (rnds (kt m (b:Nat) s w N M (liZ lr) zs) 1 (1+3*(b+1)) (hs0 s w 0 m)) (lets (kt m (b:Nat) s w N M (liZ lr) zs) 1 (1+3*(b+1)) (hs0 s w 0 m))/\Mv [] T1 V:=by
 have e4:=get_lt B;have e6:=get_lt C;have Q:W (evE (callF prog 13) (.mk 3 55 "Setting" 0 #[f,i,j,k]) δ T) λx U=>x=.ref T1.len/\Mv [] T1 U/\U.len=T1.len+1/\U.get T1.len=Φ (sD (m:Nat) (b:Nat) (pD (liZ lr)) (.tup (zs.map lD))):=by show W (Out.bind _ _) _;rw[E,zas,zab];refine(zqJ (n:=7) (a:=T1.len) (S:=T1.push (.ins 3 [])) (m:=(m:Nat)) (b:=(b:Nat)) (x:=.ref l4) (y:=.ref l6) (X:=pD (liZ lr)) (Y:=.tup (zs.map lD)) (zal T1 (.ins 3 [])) ⟨by show T1.frz.length<=T1.len;unfold St.len;lia,zcp t (le_refl _)⟩ (by lia) (by lia) (by lia) (by lia) (λU v=>zp1 (n:=8) (v.old _ _ (by simp;lia) (zae B)) L d) (λU v=>zsA (n:=7) (v.old _ _ (by simp;lia) (zae C)) u hz)).mono λx U hU=>?_;let⟨rfl,v,l,g⟩:=hU;rw[plen]at l;exact⟨rfl,⟨v.frz,v.lk,by lia,λm o _ e=>v.old m o (by have:=get_lt e;simp;lia) (zae e)⟩,l,g⟩
 let⟨x,p,e,rfl,u1,l1,gs⟩:=W_ex Q;have A:evEs (callF prog 13) #[.mk 3 55 "Setting" 0 #[f,i,j,k],q,r] δ T=.ok [.ref T1.len,.int s,.int w] p:=by rw[evEs,e,zas,G];rfl
 unfold kE;show W (Out.bind _ _) _;rw[A,zas,zab];have c:=u1.trans (Mv.push [] p (.ins 2 []));refine(zqO (n:=0) (m:=m) (b:=(b:Nat)) (s:=s) (w:=w) (lz:=liZ lr) (zs:=zs) (zae gs) (zal p (.ins 2 [])) (ziS t c (by rw[l1];lia)) (by rw[c.lk];exact λl h=>lt_of_lt_of_le (t l h) c.len) I J (by lia) (by lia) hs O hz).mono λx V hV=>?_;let⟨rfl,⟨d,N,M,P⟩,vf,vk,vl,vo⟩:=hV;rw[show(1+3*(((b:Nat):Int)+1)).toNat=1+3*(b+1) by lia]at P;exact⟨p.len,d,N,M,rfl,P,⟨by rw[vf,c.frz],by rw[vk,c.lk],le_trans c.len vl,λl o _ e=>vo l o (by have:=get_lt e;lia) (c.old _ _ (by simp) e)⟩⟩
def pd_p(S:R.St)(n:Nat):∀p:List Int,(p.map D.int).mapM (pd S n)=Φ (p.map PySem.PyData.int)
 | []=>rfl|x::p=>by rw[Ν,Ϛ,show pd S n (.int x)=Φ (.int x) by cases n<;>rfl,pd_p S n p];rfl
abbrev oQ:Option Int->PySem.PyData|some i=>.int i|none=>.none
def pd_o(S:R.St)(n:Nat)(o:Option Int):pd S n (oD o)=Φ (oQ o):=by cases o<;>cases n<;>rfl
def pd_l(S:R.St)(z:Ly):pd S 59 (lD z)=Φ (.tuple [.int z.1.1,.tuple (z.1.2.1.map .int),.int z.1.2.2,oQ z.2]):=by unfold lD;simp![pd,Ϛ,List.mapM_nil,pd_o,pd_p];rfl
def pd_c(S:R.St)(z:Ly):pd S 59 (cD z)=Φ (.tuple [.int z.1.1,.tuple (z.1.2.1.map .int),oQ z.2]):=by unfold cD;simp![pd,Ϛ,List.mapM_nil,pd_o,pd_p];rfl
def zk6{S:R.St}{a:Type}{f:a->D}{g:a->PySem.PyData}{n:Nat}(h:∀z,pd S n (f z)=Φ (g z)):∀zs:List a,(zs.map f).mapM (pd S n)=Φ (zs.map g)
 | []=>rfl|z::zs=>by rw[Ν,Ϛ,h,zk6 h zs];rfl
def zsz{n:Nat}{S:R.St}(o:Option Int):app (callF prog (n+1)) 25 [oD o,oD o] S=.ok (.bl Γ) S:=by refine zaY (F:=ze5) rfl rfl ?_;cases o with| none=>left;exact zak rfl ⟨rfl,rfl⟩| some i=>left;exists(show tyOf S.enter (.int i)=Φ "int" from rfl);left;exists(show tyOf S.enter (.int i)=Φ "int" from rfl);left;rw[show decide (i=i)=Γ from decide_eq_true rfl];left;exact zak rfl ⟨rfl,rfl⟩
noncomputable abbrev Ek(ns:List Int)(a b c d e f g h i j k l m:Option D):Ev:=[Φ (.fix (ns.map .int)),a,b,c,d,e,f,g,h,i,j,k,l,m]
abbrev eK(k:Int):CE:=.call 23 0 #[J0,.con (D.int k)]
abbrev e1:CE:=.bin .Add Y2 (.bin .Mod (eK 0) Y6)
abbrev e2:CE:=.bin .Mod (eK 1) (.bin .Sub Y4 (.intb (.cmp .Gt J1 Y5)))
abbrev e3:CE:=.bin .Mod (eK 2) J1
abbrev e4:CE:=.bin .Sub (.bin .Mod (eK 3) (.bin .Sub (.bin .Mult Y2 (.bin .Pow Y10 Y60)) Y1)) (.bin .Sub (.bin .Pow Y10 Y60) Y1)
abbrev e5:CE:=.call 26 0 #[eK 4,J1,J1]
abbrev e6:CE:=.bin .Mod (.bin .Add (.bin .Add J3 Y1) (.bin .Mod (eK 5) (.bin .Sub J1 Y1))) J1
abbrev e7:CE:=.call 30 0 #[J0,Y7,.call 27 0 #[J1,J2,J3],J5,J4]
abbrev e8:CE:=kE J1 J2 J5 J7 J3 J4
abbrev leE(i:Nat):CE:=.meth "letters" [(2,53)] (.loc i) .nil
@[irreducible]noncomputable def e10:CE:=.mkL (.comp 1 [6] [0] (.rng1 J1) (.cmp .NotEq J0 J1) J0)
abbrev e12:CE:=kE J1 J2 J10 (.call 33 0 #[J9,J6,J11]) J3 (.bin .Mod J11 (.bin .Pow Y10 Y60))
abbrev c13:CE:=.cmp .NotEq (.call 31 0 #[leE 12,J6]) (.call 31 0 #[J9,J6])
abbrev c14:CE:=.and (.cmp .NotIn J6 J5) (.cmp .NotEq (.call 32 0 #[leE 12,J6]) (.call 32 0 #[J9,J6]))
abbrev enE(i:Nat):CE:=.meth "ending" [(0,36),(1,41),(2,51)] (.loc i) #[J6]
abbrev syE(i:Nat):CE:=.meth "story" [(1,48),(2,54)] (.loc i) #[J6]
abbrev e14:CE:=.and (.call 25 0 #[J13,enE 8]) (.cmp .Eq (syE 12) (syE 8))
abbrev fls:CS:=.ret (.con (D.bl Δ)) .nil
abbrev tl4:CS:=.asg 13 (enE 12) (.ret e14 .nil)
abbrev tl3:CS:=.ifS c13 fls .nil (.ifS c14 fls .nil tl4)
abbrev tl2:CS:=.asg 9 (leE 8) (.asg 10 e10 (.asg 11 (eK 6) (.asg 12 e12 tl3)))
def znF:c_law.body=.asg 1 e1 (.asg 2 e2 (.asg 3 e3 (.asg 4 e4 (.asg 5 e5 (.asg 6 e6 (.asg 7 e7 (.asg 8 e8 tl2))))))):=by unfold tl2 e10;rfl
def stA{cf:CF}{e:CE}{i:Nat}{r:CS}{δ δ':Ev}{S T:R.St}{x:D}{Q:Fl->R.St->Prop}(a:evE cf e δ S=.ok x T)(hd:δ.set i (Φ x)=δ')(h:W (exS cf r δ' T) Q):W (exS cf (.asg i e r) δ S) Q:=by show W (Out.bind _ _) _;rw[a,zas,hd];exact h
def stI{cf:CF}{c:CE}{t r:CS}{δ:Ev}{S T:R.St}{Q:Fl->R.St->Prop}(a:evT cf c δ S=.ok Δ T)(h:W (exS cf r δ T) Q):W (exS cf (.ifS c t .nil r) δ S) Q:=by show W (Out.bind _ _) _;rw[a,zas];show W ((exS cf .nil δ T).bind _) Q;rw[show exS cf .nil δ T=.ok (.nx δ) T by (conv=>lhs;whnf),zas];exact h
section
variable{ns:List Int}{m b l5 l7:Nat}{s w:Int}{h:Nat}{lr:List Int}{zs:List Ly}{V:R.St}{a hl N M:Nat}
abbrev za8(m h:Nat):List Int:=(rg (m:Nat)).filter λo=>!decide (o=((h:Nat):Int))
def but_mem{m h:Nat}{x:Int}:x∈za8 m h↔0<=x/\x<(m:Int)/\x≠(h:Nat):=by unfold za8 rg;simp![mem_filter,mem_map,mem_range,ϟ,decide_eq_false_iff_not];constructor;rintro⟨⟨k,e,rfl⟩,c⟩;exact⟨by lia,by lia,c⟩;rintro⟨f,c,d⟩;exact⟨⟨x.toNat,by lia,by lia⟩,d⟩
def zmk{m h:Nat}(c:m<=7):(za8 m h).length<=7:=by unfold za8;refine le_trans (ϛ _ _) ?_;simp[rg];omega
def zo6{m h j:Nat}(c:j<m):lbZ (liZ (za8 m h)) j = !decide (j=h):=by unfold lbZ;rw[Bool.eq_iff_iff,decide_eq_true_eq,zlj,but_mem];simp;lia
def zu8{cf:CF}{T:R.St}(v:Option D):zax [0] (evT cf (.cmp .NotEq J0 J1)) (evE cf J0) ((List.range (m:Int).toNat).map λ(k:Nat)=>D.int (k:Int)) [v,Φ (.int (h:Nat))] T=.ok ((za8 m h).map .int) T:=by rw[zkx,zaT (λd=>match d with|.int o=>!decide (o=((h:Nat):Int))|_=>Δ) (λd=>d) _ v (λz c=>?_) (λz c _=>?_)];rw[zbb (λo=>!decide (o=((h:Nat):Int))) D.int _ _ (λo=>rfl) (λo=>rfl)];rfl;let⟨o,_,rfl⟩:=mem_map.mp c;refine W.eq (wT_W _ ?_);left;exact⟨by simp,rfl⟩;let⟨o,_,rfl⟩:=mem_map.mp c;refine W.eq (wE_W _ ?_);left;exact⟨rfl,rfl⟩
def ztO{p2 p3 p4 p5 p7 p8 p9 p11 p12 p13:Option D}(c:m<=7):evE (callF prog 13) e10 (Ek ns (Φ (.int (m:Nat))) p2 p3 p4 p5 (Φ (.int (h:Nat))) p7 p8 p9 Ψ p11 p12 p13) V=.ok (.ref V.len) (V.push (.lst ((za8 m h).map .int))):=by
 have d:=zmk (h:=h) c;refine W.eq (wE_W _ ?_);unfold e10;left;change by lia
 left;refine zat ?_;refine W.of (zu8 Ψ) ?_;change by rw[length_map];lia
 left;change by show(List.map D.int (za8 m h)).length<=_;rw[length_map];lia
 left;exact⟨rfl,rfl⟩
end
def stW{cf:CF}{e:CE}{i:Nat}{r:CS}{δ:Ev}{S:R.St}{P:D->R.St->Prop}{Q:Fl->R.St->Prop}(a:W (evE cf e δ S) P)(h:∀x T,P x T->W (exS cf r (δ.set i (Φ x)) T) Q):W (exS cf (.asg i e r) δ S) Q:=by show W (Out.bind _ _) _;rw[zab];exact a.mono h
def zoZ{s w:Int}{m h:Nat}(b:h<m)(a:((h:Nat):Int)≠s):(hs0 s w 0 m)[h]?=Φ (Ψ,0,[]):=by
 have c:h<(hs0 s w 0 m).length:=by rw[zbB];exact b
 have e:=Ι c;let⟨_,d⟩:=zfS s w m 0 h _ e;rw[e,d];unfold wdO;rw[zero_add,if_neg a]
def ziP{s w:Int}{m:Nat}(a:-10^60<w/\w<10^60):∀g∈hs0 s w 0 m,WOk g.1:=by intro g b;let⟨j,c⟩:=List.mem_iff_getElem?.mp b;let⟨_,rfl⟩:=zfS s w m 0 j g c;intro v e;unfold wdO at e;split at e;cases e;exact a;exact nS e
section
variable{ns:List Int}{m b l5:Nat}{s w w2:Int}{h:Nat}{lr:List Int}{V:R.St}{a1 hl1 N1 a2 hl2 N2 l9:Nat}{H1 H2:List Kh}{Z1 Z2:List Ly}{p2 p3 p4 p7 p10 p11:Option D}
def t3(d:Pl V a1 hl1 N1 m (b:Nat) s w H1 (Z1.map lD))(a:Pl V a2 hl2 N2 m (b:Nat) s w2 H2 (Z2.map lD))(G:V.get l5=Φ (.lst (lr.map .int)))(E:V.get l9=Φ (.lst (Z1.map lD)))(z1:Z1.length<=1000)(z2:Z2.length<=1000)(I:∀z∈Z1,z.1.2.1≠[])(J:∀z∈Z2,z.1.2.1≠[])(L:h<m)(i:((h:Nat):Int)≠s)
  (M:H1[h]?=H2[h]?) (N:cmZ (h:Nat) Z1=cmZ (h:Nat) Z2) (O:((h:Nat):Int)∉lr->wnZ (h:Nat) Z1=wnZ (h:Nat) Z2) :
  W (exS (callF prog 13) tl3 (Ek ns (Φ (.int (m:Nat))) p2 p3 p4 (Φ (.ref l5)) (Φ (.int (h:Nat))) p7 (Φ (.ref a1)) (Φ (.ref l9)) p10 p11 (Φ (.ref a2)) Ψ) V) λf _=>f=.rt (.bl Γ):=by
 have j:∃T,evT (callF prog 13) c13 (Ek ns (Φ (.int (m:Nat))) p2 p3 p4 (Φ (.ref l5)) (Φ (.int (h:Nat))) p7 (Φ (.ref a1)) (Φ (.ref l9)) p10 p11 (Φ (.ref a2)) Ψ) V=.ok Δ T/\∀l o,V.get l=Φ o->T.get l=Φ o:=by let⟨v,p,_⟩:=a.p;refine⟨((V.push (.lst (Z2.map lD))).push (.lst ((cmZ (h:Nat) Z2).map cD))).push (.lst ((cmZ (h:Nat) Z1).map cD)),W.eq (wT_W _ ?_),λl o e=>zae (zae (zae e))⟩;unfold c13 leE;left;exists zau p;left;exists rfl;left;change rfl;left;specialize(zqN (n:=12) a (by rw[length_map];lia));left;specialize zoC (n:=12) (zal _ _) (by lia);left;specialize zoC (n:=12) (zae (zae E)) (by lia);left;exists zek (zae (zal _ _)) (N▸zal _ _) (zk6 (pd_c _) _);left;exact⟨rfl,rfl⟩
 let⟨T,Q,u⟩:=j;refine stI Q ?_;have A:=d.mono u;have c:=a.mono u;have k:=u _ _ G;have B:=u _ _ E;have q:∃U,evT (callF prog 13) c14 (Ek ns (Φ (.int (m:Nat))) p2 p3 p4 (Φ (.ref l5)) (Φ (.int (h:Nat))) p7 (Φ (.ref a1)) (Φ (.ref l9)) p10 p11 (Φ (.ref a2)) Ψ) T=.ok Δ U/\∀l o,T.get l=Φ o->U.get l=Φ o:=by let⟨v,p,_⟩:=c.p;by_cases y:((h:Nat):Int)∈lr;refine⟨T,W.eq (wT_W _ ?_),λ_ _ e=>e⟩;unfold c14;left;exists zd2 k (h:Nat);left;rw[decide_eq_true y];left;exact⟨rfl,rfl⟩;refine⟨((T.push (.lst (Z2.map lD))).push (.lst ((wnZ (h:Nat) Z2).map lD))).push (.lst ((wnZ (h:Nat) Z1).map lD)),W.eq (wT_W _ ?_),λl o e=>zae (zae (zae e))⟩;unfold c14 leE;left;exists zd2 k (h:Nat);left;rw[decide_eq_false y];left;exists zau p;left;exists rfl;left;change rfl;left;specialize(zqN (n:=12) c (by rw[length_map];lia));left;specialize zgh (n:=12) (zal _ _) (by lia) J;left;specialize zgh (n:=12) (zae (zae B)) (by lia) I;left;exists zek (zae (zal _ _)) ((O y)▸zal _ _) (zk6 (pd_l _) _);left;exact⟨rfl,rfl⟩
 let⟨U,Y,r⟩:=q;refine stI Y ?_;have d:=A.mono r;have a:=c.mono r;obtain⟨g,C⟩:∃g,H1[h]?=Φ g:=⟨_,Ι (by rw[d.l];exact L)⟩;have t:=M▸C;unfold tl4;refine stA (x:=oD g.1) (T:=U) ?_ rfl ?_;let⟨v,p,_⟩:=a.p;refine W.eq (wE_W _ ?_);unfold enE;left;exists zau p;left;exists rfl;left;change rfl;left;specialize(zto (n:=8) a t i);left;exact⟨rfl,rfl⟩;let⟨v,p,_⟩:=d.p;let⟨sl2,p2,_⟩:=a.p;refine wS_W _ ?_;unfold e14 enE syE;generalize hx:oD g.1=x;left;exists zau p;left;exists rfl;left;change rfl;left;specialize(zto (n:=8) d C i);left;rw[<-hx];specialize zsz (n:=12) g.1;left;exists zau p2;left;exists rfl;left;change rfl;left;specialize(ztk (n:=8) a t);left;exists zau (zae p);left;exists rfl;left;change rfl;left;specialize(ztk (n:=8) (d.mono λ_ _ e=>zae e) C);left;exists zh3 (zae (zal _ _)) (zal _ _) (zs4 _ 59 g.2.2);left
end
section
variable{ns:List Int}{m b l5:Nat}{s w:Int}{h:Nat}{lr:List Int}{zs:List Ly}{V:R.St}{a hl N M:Nat}{p7:Option D}
def t2(lk:V.lk=[])(m2:2<=m)(j:m<=7)(b3:b<=3)(hs:0<=s/\s<(m:Nat))(r:h<m)(g:((h:Nat):Int)≠s)(g5:V.get l5=Φ (.lst (lr.map .int)))(zo:∀z∈zs,LyOk (m:Nat) z)(hw:-10^60<w/\w<10^60)
  (P:Pl V a hl N m (b:Nat) s w (rnds (kt m (b:Nat) s w N M (liZ lr) zs) 1 (1+3*(b+1)) (hs0 s w 0 m)) (lets (kt m (b:Nat) s w N M (liZ lr) zs) 1 (1+3*(b+1)) (hs0 s w 0 m))) :
  W (exS (callF prog 13) tl2 (Ek ns (Φ (.int (m:Nat))) (Φ (.int (b:Nat))) (Φ (.int s)) (Φ (.int w)) (Φ (.ref l5)) (Φ (.int (h:Nat))) p7 (Φ (.ref a)) Ψ Ψ Ψ Ψ Ψ) V) λf _=>f=.rt (.bl Γ):=by
 have el:=zhL (m:=m) (b:=(b:Nat)) (s:=s) (w:=w) (N:=N) (M:=M) (lz:=liZ lr) (zs:=zs) (1+3*(b+1)) 1 (hs0 s w 0 m);have L:=zhP (m:=m) (b:=(b:Nat)) (s:=s) (w:=w) (N:=N) (M:=M) (lz:=liZ lr) (zs:=zs) j (1+3*(b+1)) 1 (hs0 s w 0 m) (zbB ..);have t:=zlz (m:=m) (b:=(b:Nat)) (s:=s) (w:=w) (N:=N) (M:=M) (lz:=liZ lr) (zs:=zs) zo (1+3*(b+1)) 1 (hs0 s w 0 m) (by lia) (by lia) (zbB ..) (ziP hw);have v:=zme (m:=m) (b:=(b:Nat)) (s:=s) (w:=w) (N:=N) (M:=M) (lz:=liZ lr) (zs:=zs) (h:Nat) (1+3*(b+1)) 1 (hs0 s w 0 m) (zbB ..);have v:(cmZ (h:Nat) (kLs m (b:Nat) s w N M (liZ lr) zs 1 (1+3*(b+1)) (hs0 s w 0 m))).length<=7*13:=le_trans v (Nat.mul_le_mul j (by lia));have L:(kLs m (b:Nat) s w N M (liZ lr) zs 1 (1+3*(b+1)) (hs0 s w 0 m)).length<=637:=by lia
 have P:Pl V a hl N m (b:Nat) s w _ _:=el▸P;generalize O:kLs m (b:Nat) s w N M (liZ lr) zs 1 (1+3*(b+1)) (hs0 s w 0 m)=d at P L t v;have Q:∀z∈d,z.1.2.1≠[]:=λz A e=>by have:=(t z A).p1;rw[e]at this;exact absurd this (by decide)
 unfold tl2;refine stA (x:=.ref V.len) (T:=V.push (.lst (d.map lD))) ?_ rfl ?_;let⟨sl,p,_⟩:=P.p;refine W.eq (wE_W _ ?_);unfold leE;left;exists zau p;left;exists rfl;left;change rfl;left;specialize(zqN (n:=12) P (by rw[length_map];lia));left;exact⟨rfl,rfl⟩;refine stA (ztO j) rfl ?_;refine stA (x:=.int (zaL ns 6)) (T:=(V.push (.lst (d.map lD))).push (.lst ((za8 m h).map .int))) ?_ rfl ?_;refine W.eq (wE_W _ ?_);unfold eK;left;specialize zcv (n:=12) (k:=6);left;exact⟨rfl,rfl⟩
 have B:0<=zaL ns 6%10^60:=emod_nonneg _ (by decide);have C:zaL ns 6%10^60<10^60:=ϒ _ (by decide);generalize hc:zaL ns 6=c at B C;have Y:((V.push (.lst (d.map lD))).push (.lst ((za8 m h).map .int))).get V.len=Φ (.lst (d.map lD)):=zae (zal _ _);have sl:=zpI (h:Nat) c d;refine stW (zk9 (T:=(V.push (.lst (d.map lD))).push (.lst ((za8 m h).map .int))) (T1:=((V.push (.lst (d.map lD))).push (.lst ((za8 m h).map .int))).push (.lst ((secZ (h:Nat) c d).map lD))) (m:=m) (b:=b) (l4:=(V.push (.lst (d.map lD))).len) (l6:=((V.push (.lst (d.map lD))).push (.lst ((za8 m h).map .int))).len) (s:=s) (w:=c%10^60) (lr:=za8 m h) (zs:=secZ (h:Nat) c d)
  ?_ (λU=>?_) (by show ∀l∈V.lk,_;rw[lk];exact λl h=>by cases h) (by lia) j (by lia) (zae (zal _ _)) (zal _ _) (le_trans (zmk j) (by decide)) (λx hx=>⟨(but_mem.mp hx).1,(but_mem.mp hx).2.1⟩) (by lia) (zov t) hs ⟨Int.lt_of_lt_of_le (by decide) B,C⟩) ?_
 refine W.eq (zj1 _ ?_);left;specialize zmW (n:=12) Y (by lia) Q;left;exact⟨rfl,rfl⟩;refine W.eq (zj1 _ ?_);left;right;left;change by decide
 left;exact⟨rfl,rfl⟩;rintro x V2 ⟨a2,E,q,M2,rfl,G,v2⟩;have I:=zhL (m:=m) (b:=(b:Nat)) (s:=s) (w:=c%10^60) (N:=q) (M:=M2) (lz:=liZ (za8 m h)) (zs:=secZ (h:Nat) c d) (1+3*(b+1)) 1 (hs0 s (c%10^60) 0 m);have zl2:=zhP (m:=m) (b:=(b:Nat)) (s:=s) (w:=c%10^60) (N:=q) (M:=M2) (lz:=liZ (za8 m h)) (zs:=secZ (h:Nat) c d) j (1+3*(b+1)) 1 (hs0 s (c%10^60) 0 m) (zbB ..);have J:=zlz (m:=m) (b:=(b:Nat)) (s:=s) (w:=c%10^60) (N:=q) (M:=M2) (lz:=liZ (za8 m h)) (zs:=secZ (h:Nat) c d) (zov t) (1+3*(b+1)) 1 (hs0 s (c%10^60) 0 m) (by lia) (by lia) (zbB ..) (ziP ⟨Int.lt_of_lt_of_le (by decide) B,C⟩);have G:Pl V2 a2 E q m (b:Nat) s (c%10^60) _ _:=I▸G;have u:=alike (m:=m) (b:=(b:Nat)) (s:=s) (w:=w) (w':=c%10^60) (N:=N) (M:=M) (N':=q) (M':=M2) (lz:=liZ lr) (lz':=liZ (za8 m h)) (zs:=zs) (zs':=secZ (h:Nat) c d) (h:=h) (1+3*(b+1)) 1 (hs0 s w 0 m) (hs0 s (c%10^60) 0 m) (zbB ..) (zbB ..) (by rw[zoZ r g,zoZ r g]) λτ i _ _ hi ho x=>by rw[O];unfold bnd;have ne:i≠h:=λe=>(zj8 ho).2.2 (by rw[e]);rw[zo6 hi,decide_eq_false ne];exact znG (k:=((τ:Int),[((i:Nat):Int)],((h:Nat):Int))) x
 rw[O]at u;have up:∀l o,V.get l=Φ o->V2.get l=Φ o:=λl o e=>v2.old _ _ (by simp) (zae (zae (zae e)));refine t3 (P.mono up) G (up _ _ g5) (v2.old _ _ (by simp) (zae Y)) (by lia) (by lia) Q (λz A e=>by have:=(J z A).p1;rw[e]at this;exact absurd this (by decide)) r g u.1 u.2.1 λy=>u.2.2 ?_ ?_;exact decide_eq_false λz=>y ((zlj _ _).mp z);rw[zo6 r,decide_eq_true rfl];rfl
end
def zq5{s x m:Int}(hs:0<=s/\s<m)(a:0<=x/\x<m-1):(s+1+x)%m≠s/\0<=(s+1+x)%m/\(s+1+x)%m<m:=by
 refine⟨?_,emod_nonneg _ (by lia),ϒ _ (by lia)⟩;by_cases c:s+1+x<m;rw[Int.emod_eq_of_lt (by lia) c];lia;have e:s+1+x=(s+1+x-m)+m:=by lia
 rw[e,Int.add_emod_right,Int.emod_eq_of_lt (by lia) (by lia)];lia
def law_true(ns:List Int)(E:ns.length<=63):W (callF prog 14 34 [.fix (ns.map .int)] ⟨[],[],[]⟩) λd _=>d=.bl Γ:=by
 have key:W (exS (callF prog 13) c_law.body (Ek ns Ψ Ψ Ψ Ψ Ψ Ψ Ψ Ψ Ψ Ψ Ψ Ψ Ψ) ⟨[],[],[]⟩) λf _=>f=.rt (.bl Γ):=by
  rw[znF];have z0:=zg4 ns 0;obtain⟨m,G⟩:∃m:Nat,2+zaL ns 0%6=(m:Nat):=⟨(2+zaL ns 0%6).toNat,by lia⟩;have I:2<=m:=by lia
  have r:m<=7:=by lia
  refine stA (x:=.int (m:Nat)) (T:=⟨[],[],[]⟩) (δ':=Ek ns (Φ (.int (m:Nat))) Ψ Ψ Ψ Ψ Ψ Ψ Ψ Ψ Ψ Ψ Ψ Ψ) ?_ rfl ?_;refine W.eq (wE_W _ ?_);unfold e1 eK;left;specialize zcv (n:=12) (k:=0);left;right;left;exact⟨by rw[<-G],rfl⟩;obtain⟨q,J,L,q2⟩:∃q:Int,4-(if decide ((5:Int)<(m:Nat))=Γ then(1:Int) else 0)=q/\0<q/\q<=4:=⟨_,rfl,by split<;>lia,by split<;>lia⟩;have b0:=emod_nonneg (zaL ns 1) (show q≠0 by lia);have b1:=ϒ (zaL ns 1) L;obtain⟨b,O⟩:∃b:Nat,zaL ns 1%q=(b:Nat):=⟨(zaL ns 1%q).toNat,by lia⟩;have b3:b<=3:=by lia
  refine stA (x:=.int (b:Nat)) (T:=⟨[],[],[]⟩) (δ':=Ek ns (Φ (.int (m:Nat))) (Φ (.int (b:Nat))) Ψ Ψ Ψ Ψ Ψ Ψ Ψ Ψ Ψ Ψ Ψ) ?_ rfl ?_;refine W.eq (wE_W _ ?_);unfold e2 eK;left;specialize zcv (n:=12) (k:=1);left;rw[J];change by lia
  left;exact⟨by rw[O],rfl⟩;have g:=emod_nonneg (zaL ns 2) (show((m:Nat):Int)≠0 by lia);have i:=ϒ (zaL ns 2) (show(0:Int)<(m:Nat) by lia);obtain⟨s,j⟩:∃s:Int,zaL ns 2%(m:Nat)=s:=⟨_,rfl⟩;rw[j]at g i;refine stA (x:=.int s) (T:=⟨[],[],[]⟩) (δ':=Ek ns (Φ (.int (m:Nat))) (Φ (.int (b:Nat))) (Φ (.int s)) Ψ Ψ Ψ Ψ Ψ Ψ Ψ Ψ Ψ Ψ) ?_ rfl ?_;refine W.eq (wE_W _ ?_);unfold e3 eK;left;specialize zcv (n:=12) (k:=2);left;change by lia
  left;exact⟨by rw[j],rfl⟩;obtain⟨w,y,z⟩:∃w:Int,zaL ns 3%(2*10^60-1)-(10^60-1)=w/\-10^60<w/\w<10^60:=⟨_,rfl,by lia,by lia⟩;refine stA (x:=.int w) (T:=⟨[],[],[]⟩) (δ':=Ek ns (Φ (.int (m:Nat))) (Φ (.int (b:Nat))) (Φ (.int s)) (Φ (.int w)) Ψ Ψ Ψ Ψ Ψ Ψ Ψ Ψ Ψ) ?_ rfl ?_;refine W.eq (wE_W _ ?_);unfold e4 eK;left;specialize zcv (n:=12) (k:=3);left;right;left;change by unfold zfD;simp
  left;right;left;change by decide
  left;exact⟨by rw[<-y];rfl,rfl⟩;let⟨lr,A,hl,Q⟩:=zp3 (n:=12) (S:=⟨[],[],[]⟩) (c:=zaL ns 4) (m:=m) (t:=m) r (le_refl _);refine stA (x:=.ref 0) (T:=⟨[],[.lst (lr.map .int)],[]⟩) (δ':=Ek ns (Φ (.int (m:Nat))) (Φ (.int (b:Nat))) (Φ (.int s)) (Φ (.int w)) (Φ (.ref 0)) Ψ Ψ Ψ Ψ Ψ Ψ Ψ Ψ) ?_ rfl ?_;refine W.eq (wE_W _ ?_);unfold e5 eK;left;specialize zcv (n:=12) (k:=4);left;specialize A;left;exact⟨rfl,rfl⟩;have Y:=emod_nonneg (zaL ns 5) (show((m:Nat):Int)-1≠0 by lia);have x1:=ϒ (zaL ns 5) (show(0:Int)<(m:Nat)-1 by lia);let⟨o,h0,h1⟩:=zq5 (x:=zaL ns 5%((m:Nat)-1)) ⟨g,i⟩ ⟨Y,x1⟩;obtain⟨h,B⟩:∃h:Nat,(s+1+zaL ns 5%((m:Nat)-1))%(m:Nat)=(h:Nat):=⟨((s+1+zaL ns 5%((m:Nat)-1))%(m:Nat)).toNat,by lia⟩;refine stA (x:=.int (h:Nat)) (T:=⟨[],[.lst (lr.map .int)],[]⟩) (δ':=Ek ns (Φ (.int (m:Nat))) (Φ (.int (b:Nat))) (Φ (.int s)) (Φ (.int w)) (Φ (.ref 0)) (Φ (.int (h:Nat))) Ψ Ψ Ψ Ψ Ψ Ψ Ψ) ?_ rfl ?_;refine W.eq (wE_W _ ?_);unfold e6 eK;left;specialize zcv (n:=12) (k:=5);left;change by lia
  left;change by lia
  left;exact⟨by rw[B],rfl⟩;rw[B]at o h0 h1;have u:(⟨[],[.lst (lr.map .int)],[]⟩:R.St).get 0=Φ (.lst (lr.map .int)):=rfl;generalize hT:(⟨[],[.lst (lr.map .int)],[]⟩:R.St)=T at u;have p:T.lk=[]:=by rw[<-hT]
  let⟨e,ek,kl,ko⟩:=zpZ (n:=12) (S:=T) (m:=m) (b:=b) (s:=s) (by lia) r b3 ⟨g,i⟩;let⟨zs,ez,zl,C⟩:=zp2 (n:=10) (S:=T.push (.lst (e.map kD))) (ns:=ns) (w:=w) (m:=m) E z (zal _ _) (zae u) ko kl;refine stA (x:=.ref (T.push (.lst (e.map kD))).len) (T:=(T.push (.lst (e.map kD))).push (.lst (zs.map lD))) (δ':=Ek ns (Φ (.int (m:Nat))) (Φ (.int (b:Nat))) (Φ (.int s)) (Φ (.int w)) (Φ (.ref 0)) (Φ (.int (h:Nat))) (Φ (.ref (T.push (.lst (e.map kD))).len)) Ψ Ψ Ψ Ψ Ψ Ψ) ?_ rfl ?_;refine W.eq (wE_W _ ?_);unfold e7;left;specialize ek;left;specialize ez;left;exact⟨rfl,rfl⟩;refine stW (zk9 (m:=m) (b:=b) (l4:=0) (l6:=(T.push (.lst (e.map kD))).len) (s:=s) (w:=w) (lr:=lr) (zs:=zs) (T1:=(T.push (.lst (e.map kD))).push (.lst (zs.map lD))) rfl (λU=>rfl) (by show ∀l∈T.lk,_;rw[p];exact λl h=>by cases h) (by lia) r (by lia) (zae (zae u)) (zal _ _) (by lia) Q zl C ⟨g,i⟩ z) ?_;rintro x V ⟨a,hl',N,M,rfl,P,v⟩;exact t2 (l5:=0) (by rw[v.lk];exact p) I r b3 ⟨g,i⟩ (by lia) o (v.old _ _ (by simp) (zae (zae u))) C z P
 have hP:prog[34]?=Φ c_law:=rfl;simp![callF,hP];show W (Out.bind (exS (callF prog 13) c_law.body (Ek ns Ψ Ψ Ψ Ψ Ψ Ψ Ψ Ψ Ψ Ψ Ψ Ψ Ψ) ⟨[],[],[]⟩) _) _;rw[zab];refine key.mono λf T h=>?_;subst h;rfl
end
section
open PySem R L2
def p_road{P:ϊ}{w:ό}{K:Frag}{h base:Heap}{b:Str->Option Ξ}{f d:Addr}{i kV m o ct:Ξ}{q r:Option Addr}{s:Array (Option Ξ)}(X:K.In h)(G:h.Ns mainGlobals b)(t:BM b base)(a:nsIn K mainGlobals "road"=Φ (Φ (.ref f)))(l:K.lookup f=Φ ⟨i,q,.func (fnOf "road" "road" (zaq zdb) (zaj zdb) (zaa zdb) .none kV m o r (.ref d) ct),s⟩)(c:codeIn K (.ref d) "road"=Γ)(k:keepIn K (.ref f)=Γ)(e:codeHdIn K d 23=Γ):DefOk K b tab prog 0 "road" ["lies"] 0\/PrimOk P w K b base tab prog 0 "road" ["lies"] 0:=.inr ⟨⟨zo5,.road,_,_,rfl,rfl,rfl,mg_of X G a,k,(λj u=>(Nat.le_zero.mp u).symm▸(zcI (st:=zdb) l c k).binds λ_ _ _ _ _ _=>usS λ_=>usZ rfl),λn v _=>(zp8 l c e zp7 t (by simp![Mks.ts,mks,mem_cons,true_or,or_true]) (λp g z=>by simp![Mks.ts,mks,mem_cons,not_mem_nil,or_false]at g;rcases g with rfl|rfl|rfl<;>first|rfl|exact absurd z (by decide)) rfl rfl rfl v).mono (by lia)⟩⟩
def p_tally{P:ϊ}{w:ό}{K:Frag}{h base:Heap}{b:Str->Option Ξ}{f d:Addr}{i kV m o ct:Ξ}{q r:Option Addr}{s:Array (Option Ξ)}(X:K.In h)(G:h.Ns mainGlobals b)(t:BM b base)(a:nsIn K mainGlobals "tally"=Φ (Φ (.ref f)))(l:K.lookup f=Φ ⟨i,q,.func (fnOf "tally" "tally" (zaq zcS) (zaj zcS) (zaa zcS) .none kV m o r (.ref d) ct),s⟩)(c:codeIn K (.ref d) "tally"=Γ)(k:keepIn K (.ref f)=Γ)(e:codeHdIn K d 168=Γ)(z:nsIn K mainGlobals "sorted"=Φ Ψ):DefOk K b tab prog 8 "tally" ["words"] 0\/PrimOk P w K b base tab prog 8 "tally" ["words"] 0:=.inr ⟨⟨zh6,.tally,_,_,rfl,rfl,rfl,mg_of X G a,k,(λj u=>(Nat.le_zero.mp u).symm▸(zcI (st:=zcS) l c k).binds λ_ _ _ _ _ _=>usS λ_=>usZ rfl),λn v _=>(zmB l c e zmA t (by decide +kernel) (λp g z=>by simp![Mks.ts,mks,mem_cons,not_mem_nil,or_false]at g;rcases g with rfl|rfl|rfl<;>first|decide +kernel|exact absurd z (by decide)) (PySem.W.mg_none_of X G z) rfl rfl rfl v).mono (by lia)⟩⟩
def lam_mem:(tab.lamP,("run":Str) ++ ".<locals>." ++ "<lambda>")∈Mks.ts:=by decide +kernel
def lam_one:∀p∈Mks.ts,p.1=tab.lamP->p.2=("run":Str) ++ ".<locals>." ++ "<lambda>":=by intro p a z;simp![Mks.ts,mks,mem_cons,not_mem_nil,or_false]at a;rcases a with rfl|rfl|rfl<;>first|decide +kernel|exact absurd z (by decide +kernel)
def lam_b:∀j,j<=1->∃n,(["hands","rounds","wires"]:List Str).length=n+j/\∀(d:Addr)(kV a c:Ξ)(e:Option Addr)(b ct:Ξ)(us:List Ξ),us.length=n->∃k,bindArgs (fnOf "run" "run" (zaq ziv) (zaj ziv) (zaa ziv) (.ref d) kV a c e b ct) ⟨us,[]⟩=seqItems? (.ref d)>>=k/\k (Φ [Ξ.none].toArray)=pure ((["hands","rounds","wires"]:List Str).zip (us++List.replicate j Ξ.none))
 |0,_=>⟨3,rfl,λ_ _ _ _ _ _ _=>usS λ_=>usS λ_=>usS λ_=>usZ ⟨_,rfl,rfl⟩⟩|1,_=>⟨2,rfl,λ_ _ _ _ _ _ _=>usS λ_=>usS λ_=>usZ ⟨_,rfl,rfl⟩⟩
end
end Kz
open PySem PySem.W PyProof.Rows
set_option maxRecDepth 100000 in
set_option maxHeartbeats 0 in
theorem PySem.Challenge.cw_traitorround_k56_kings_told_alike_holds : PySem.Challenge.rw_traitorround_k56_kings_told_alike.Holds := by
 w_on;o_law;k_head;(case hw=>w_witness2)
 k_fill
 refine R.walk_ofT (l:=PySem.Challenge.rw_traitorround_k56_kings_told_alike) (n:=63) (k:=28) (x:="_law_script") (sp:=λw=>R.spF _ (R.callF Kz.prog 14) 34) rfl (by decide) rfl ⟨rfl,by decide,by decide⟩ (λw h Y=>PySem.W.km_in_of Y) ?hT ?hK ?F (λ_ _ a ns hl hx tb=>R.law_spT hx tb (Kz.law_true ns hl))
 case hT=>intro w h Y p hp;simp![R.Mks.ts,Kz.mks,mem_cons,not_mem_nil,or_false]at hp;rcases hp with rfl|rfl|rfl;exact PySem.W.km_tabs_of Y 23 (by simp);exact PySem.W.km_tabs_of Y 168 (by simp);exact PySem.W.km_tabs_of Y 268 (by simp)
 case hK=>intro w p hp;simp![R.Mks.ts,Kz.mks,mem_cons,not_mem_nil,or_false]at hp;rcases hp with rfl|rfl|rfl;exact⟨by with_unfolding_all rfl,27,by with_unfolding_all rfl⟩;exact⟨by with_unfolding_all rfl,172,by with_unfolding_all rfl⟩;exact⟨by with_unfolding_all rfl,272,by with_unfolding_all rfl⟩
 case F=>
  intro w mg fa h KX G hmg;apply R.all_of (n:=13) KX G hmg Kz.O55 (le_refl _)
  . (repeat' (first|exact trivial|apply R.AllAtG.cons|apply R.AllInG.cons))
    . apply R.clOk (c:=0) KX G rfl<;>first|k_is|((repeat' (first|exact trivial|apply R.AllAtG.cons|apply R.AllInG.cons))<;>k_is)
    . apply R.clOk (c:=1) KX G rfl<;>first|k_is|((repeat' (first|exact trivial|apply R.AllAtG.cons|apply R.AllInG.cons))<;>k_is)
    . apply R.clOk (c:=2) KX G rfl<;>first|k_is|((repeat' (first|exact trivial|apply R.AllAtG.cons|apply R.AllInG.cons))<;>k_is)
    . apply R.clOk (c:=3) KX G rfl<;>first|k_is|((repeat' (first|exact trivial|apply R.AllAtG.cons|apply R.AllInG.cons))<;>k_is)
  . (repeat' (first|exact trivial|apply R.AllAtG.cons|apply R.AllInG.cons))<;>k_is
  . (repeat' (first|exact trivial|apply R.AllAtG.cons|apply R.AllInG.cons))<;>(apply R.coOk;k_is)
  . intro base bm
    (repeat' (first|exact trivial|apply R.AllAtG.cons|apply R.AllInG.cons))
    . apply Kz.p_road KX G bm<;>first|k_is|with_unfolding_all rfl
    . apply R.dOk KX G Kz.O38<;>k_is
    . apply R.dOk KX G Kz.O45<;>k_is
    . apply R.dOk KX G Kz.O43<;>k_is
    . apply R.dOk KX G Kz.O41<;>k_is
    . apply R.dOk KX G Kz.O42<;>k_is
    . apply R.dOk KX G Kz.O48<;>k_is
    . apply R.dOk KX G Kz.O53<;>k_is
    . apply Kz.p_tally KX G bm<;>first|k_is|with_unfolding_all rfl
    . apply R.dOk KX G Kz.O51<;>k_is
    . apply R.dOk KX G Kz.O25<;>k_is
    . apply R.lOkD KX G bm Kz.O54 Kz.lam_mem Kz.lam_one Kz.lam_b<;>first|k_is|with_unfolding_all rfl
    . apply R.dOk KX G Kz.O49<;>k_is
    . apply R.dOk KX G Kz.O50<;>k_is
    . apply R.dOk KX G Kz.O20<;>k_is
    . apply R.dOk KX G Kz.O22<;>k_is
    . apply R.dOk KX G Kz.O47<;>k_is
    . apply R.dOk KX G Kz.O26<;>k_is
    . apply R.dOk KX G Kz.O46<;>k_is
    . apply R.dOk KX G Kz.O18<;>k_is
    . apply R.dOk KX G Kz.O24<;>k_is
    . apply R.dOk KX G Kz.O52<;>k_is
    . apply R.dOk KX G Kz.O44<;>k_is
    . apply R.dOk KX G Kz.O19<;>k_is
    . apply R.dOk KX G Kz.O39<;>k_is
    . apply R.dOk KX G Kz.O37<;>k_is
    . apply R.dOk KX G Kz.O33<;>k_is
    . apply R.dOk KX G Kz.O29<;>k_is
    . apply R.dOk KX G Kz.O28<;>k_is
    . apply R.dOk KX G Kz.O27<;>k_is
    . apply R.dOk KX G Kz.O35<;>k_is
    . apply R.dOk KX G Kz.O40<;>k_is
    . apply R.dOk KX G Kz.O14<;>k_is
    . apply R.dOk KX G Kz.O23<;>k_is
    . apply R.dOk KX G Kz.O55<;>k_is
  . intro hc
    (repeat' (first|exact trivial|apply R.AllAtG.cons|apply R.AllInG.cons))
    . apply R.mOk (c:=1) hc Kz.O2 rfl rfl<;>k_is
    . apply R.mOk (c:=0) hc Kz.O15 rfl rfl<;>k_is
    . apply R.mOk (c:=1) hc Kz.O6 rfl rfl<;>k_is
    . apply R.mOk (c:=2) hc Kz.O16 rfl rfl<;>k_is
    . apply R.mOk (c:=2) hc Kz.O10 rfl rfl<;>k_is
    . apply R.mOk (c:=0) hc Kz.O31 rfl rfl<;>k_is
    . apply R.mOk (c:=1) hc Kz.O9 rfl rfl<;>k_is
    . apply R.mOk (c:=1) hc Kz.O0 rfl rfl<;>k_is
    . apply R.mOk (c:=1) hc Kz.O3 rfl rfl<;>k_is
    . apply R.mOk (c:=1) hc Kz.O1 rfl rfl<;>k_is
    . apply R.mOk (c:=1) hc Kz.O4 rfl rfl<;>k_is
    . apply R.mOk (c:=2) hc Kz.O12 rfl rfl<;>k_is
    . apply R.mOk (c:=0) hc Kz.O36 rfl rfl<;>k_is
    . apply R.mOk (c:=1) hc Kz.O11 rfl rfl<;>k_is
    . apply R.mOk (c:=1) hc Kz.O7 rfl rfl<;>k_is
    . apply R.mOk (c:=2) hc Kz.O17 rfl rfl<;>k_is
    . apply R.mOk (c:=1) hc Kz.O5 rfl rfl<;>k_is
  . (repeat' (first|exact trivial|apply R.AllAtG.cons|apply R.AllInG.cons))
    . apply R.iOk (c:=0) Kz.O30 rfl<;>k_is
    . apply R.iOk (c:=1) Kz.O8 rfl<;>k_is
    . apply R.iOk (c:=2) Kz.O21 rfl<;>k_is
    . apply R.iOkD (c:=3) (n:=5) (items:=#[Ξ.none,Ξ.none]) Kz.O13 rfl (λ_ _ _ _ _ _ _=>usS λ_=>usS λ_=>usS λ_=>usS λ_=>usS λ_=>usZ ⟨_,rfl,rfl⟩) rfl<;>k_is
  . (repeat' (first|exact trivial|apply R.AllAtG.cons|apply R.AllInG.cons))
    . apply R.cOk KX G Kz.O34<;>k_is
    . apply R.cOk KX G Kz.O32<;>k_is
  . (repeat' (first|exact trivial|apply R.AllAtG.cons|apply R.AllInG.cons))
  all_goals k_is
end

import PyProof.Rows.All
import Wide.All
import OpenK.AllK
import Wide.FinOn
import Open.SpecLaws
import KE.OsHead
import KE.OsGo
import PyProof.EqAt
import PyProof.EqKinds
import PyProof.TupleCall
import KE.BitLaws
import PyProof.DictTruth
import PyProof.DictRoadsH
import PyProof.CompMap
import PySem.SetTable
import PyProof.SetKind
import PyProof.SetRoads
import PyProof.IsRules
import PyProof.Rows.SetFrom
import KE.KDictSum
import PySem.Challenge.RW_orderlines_s01_answers
set_option Elab.async false
set_option linter.all false
set_option maxRecDepth 100000
set_option bootstrap.genMatcherCode false
section
namespace PySem.W.Fast
def tw6100986932660893148:=0
def tw322733965083029866:=0
def tw17982864441146441828:=0
def tw14556811699043548138:=0
def tw16130005420355408984:=0
def tw6979357510241529234:=0
def tw4129970696577946847:=0
def tw13307421586287569672:=0
def tw11819412909500194148:=0
def tw4138574942852894968:=0
def tw9450139663869581908:=0
def tw11252939838006581860:=0
def tw11262262133302201256:=0
def tw3812447029604491619:=0
def tw13874938913655979075:=0
def tw3569568629594625728:=0
def tw3801948990429090601:=0
def tw5247801844486502255:=0
def tw7458924868104584297:=0
def tw15229141181065220762:=0
def tw13763109364041406501:=0
def tw15240786007553912263:=0
def tw10901085586388149527:=0
def tw12659686791563960263:=0
def tw3744275719219461557:=0
def tw9329343349385339790:=0
def tw13091249958456781457:=0
def tw10034149293371912564:=0
def tw9911791542715767005:=0
def tw10799361298680592983:=0
def tw991011517282660353:=0
def tw6406167608427871728:=0
def tw16426557230594559497:=0
def tw15092431388202191691:=0
def tw13164234336762396394:=0
def tw1804096070646225275:=0
def tw16039602502652752102:=0
def tw8872333672352219527:=0
def tw6628784647201368614:=0
def tw8983129212323626247:=0
def tw567461139681414943:=0
def tw9880686264121184709:=0
def tw10321751877987293869:=0
def tw9818295574741411823:=0
def tw16221265050622782383:=0
def tw7365886097928098310:=0
def tw7855927660324926237:=0
def tw13498010740588185737:=0
def tw12944305128134319293:=0
def tw5801804472100010368:=0
def tw14633914296917403600:=0
def tw15873815368474204687:=0
def tw9780583548529202302:=0
def tw4468087531581531204:=0
def tw12472794331960442563:=0
def tw15485502246597263107:=0
def tw10480201784892958370:=0
def tw4413348298073623897:=0
def tw1296366669974669107:=0
def tw9014172446099326879:=0
def tw18276398862420722347:=0
def tw15362392979025277780:=0
def tw13756137301681121052:=0
def tw4863090234511961621:=0
def tw5265234872244364002:=0
def tw13342507300912680236:=0
def tw7800464978889951586:=0
def tw8860166415722626222:=0
def tw17547967489814960612:=0
def tw12520502510287147298:=0
def tw17957314565573236756:=0
def tw7114631539795743402:=0
def tw13536816186242886479:=0
def tw12785886608881540254:=0
def tw13821024760849898118:=0
def tw16723571031375009850:=0
def tw11689020316774093587:=0
def tw17637910622176508581:=0
def tw1312669654761574756:=0
def tw2398298299067302869:=0
def tw17156854285775767264:=0
def tw8119526957760466761:=0
def tw11803200020683723159:=0
def tw15450836941252813112:=0
def tw4278668487685484787:=0
def tw940537776873821294:=0
def tw11252702692470618308:=0
def tw3590903316719851213:=0
def tw1601790238951823447:=0
def tw18017570390465567639:=0
def tw10368137364935400145:=0
def tw5584621274630227815:=0
def tw6631584579427484976:=0
def tw4201335636742943377:=0
def tw1827436313958066257:=0
def tw2011491096398115222:=0
def tw4294759582817212289:=0
def tw1067570658141108239:=0
def tw14471514914896558125:=0
def tw10864450192381417332:=0
def tw8856809497209808497:=0
def tw7814218679681788345:=0
def tw1284345968207388404:=0
def tw15465222189720770154:=0
def tw765472711775187390:=0
def tw18134318313970768946:=0
def tw13463959987120722769:=0
def tw10777369528424690488:=0
def tw15725040603545658060:=0
def tw7038282149174354009:=0
def tw7357211134473516465:=0
def tw17171609348927812195:=0
def tw15846084811017419736:=0
def tw5626769690179925261:=0
def tw18161435222749139943:=0
def tw13890062745788900828:=0
def tw6874068257317404866:=0
def tw5791334062156842087:=0
def tw2462033215105082848:=0
def tw11887116863520091735:=0
def tw1639272426450758244:=0
def tw6063073045193490037:=0
def tw17133251398327045410:=0
def tw16149325603393282121:=0
def tw15178368092769664312:=0
def tw13562659764715009981:=0
def tw7480565184887038289:=0
def tw16978191260194711740:=0
def tw4009505556928530838:=0
def tw5708009989670254421:=0
def tw3068615131098193448:=0
def tw12816779401237414646:=0
def tw18219043419206657137:=0
def tw10143895069213875054:=0
def tw6205530278466515344:=0
def tw4849358005958283508:=0
def tw5027918891925913840:=0
def tw8179977456128323490:=0
def tw8090553211467174784:=0
def tw11210840468908106739:=0
def tw12423623104190886195:=0
def tw7933129260345830261:=0
def tw2341169674271480644:=0
def tw15325759263496610962:=0
def tw8091751228988813311:=0
def tw18249960972169800722:=0
def tw3643350622733850684:=0
def tw15205660064156295905:=0
def tw1094426076613134148:=0
def tw15140777386818429897:=0
def tw439740410322209640:=0
def tw937102936858230815:=0
def tw5343339560362232007:=0
def tw8443960255634725942:=0
def tw2905356458540840374:=0
def tw13464352767816608909:=0
def tw9406215432663838743:=0
def tw15405471139198826579:=0
def tw6085608567846450956:=0
def tw655075793202855046:=0
def tw16421640411831621656:=0
def tw17172499560984675159:=0
def tw18040231333455430410:=0
def tw16569121510684463337:=0
def tw10839669603622144412:=0
def tw13115557423829354067:=0
def tw13813371281907615342:=0
def tw15098652759508252701:=0
def tw6088805209587965801:=0
def tw17386583400674159070:=0
def tw12313203930054954051:=0
def tw15576922475356634553:=0
def tw17118326616654040711:=0
def tw6289096645163853763:=0
def tw5839038820040317148:=0
def tw3453268384277850904:=0
def tw2487582251069604575:=0
def tw8452071539962095:=0
def tw5532629386362580040:=0
def tw12378120335354648519:=0
def tw2304888342020606487:=0
def tw13942335359606173620:=0
def tw1400609652418350018:=0
def tw8287521859512567451:=0
end PySem.W.Fast
namespace L2
open PySem
def bJ (s:Stmt)(j:Nat):Stmt:=match s with
 | .ClassDef _ _ _ body _ _ _ _ _ _ _=>body.getD j (.Pass ⟨0,0,0,0⟩)
 | _=>.Pass ⟨0,0,0,0⟩
def hX (s:Stmt):Arguments:=match s with
 | .FunctionDef _ a _ _ _ _ _ _ _ _=>a
 | _=>{posonlyargs:=[],args:=[],vararg:=none,kwonlyargs:=[],kw_defaults:=[],kwarg:=none,defaults:=[]}
def fT (s:Stmt):List Stmt:=match s with
 | .FunctionDef _ _ b _ _ _ _ _ _ _=>b
 | _=>[]
def dS (s:Stmt):Scope:=match s with
 | .FunctionDef _ _ _ _ _ _ sc _ _ _=>sc
 | _=>{kind:=.function,names:=[],isGenerator:=false,isCoroutine:=false}
end L2
namespace Ol
open PySem PySem.Spec PySem.W PyProof.Rows L2
def top (i:Nat):Stmt:=PySem.Challenge.pw_orderlines_s01_answers.main.body.getD i (.Pass ⟨0,0,0,0⟩)
abbrev eL:Stmt:=bJ (top 18) 0
abbrev cU:Stmt:=bJ (top 18) 1
abbrev dW:Stmt:=bJ (top 18) 2
abbrev cO:Stmt:=bJ (top 18) 3
abbrev iP:Stmt:=bJ (top 19) 0
abbrev gS:Stmt:=bJ (top 20) 0
abbrev fF:Stmt:=bJ (top 20) 1
abbrev dR:Stmt:=bJ (top 20) 2
abbrev fX:Stmt:=bJ (top 20) 3
abbrev gR:Stmt:=bJ (top 20) 4
abbrev dZ:Stmt:=bJ (top 20) 5
abbrev aY:Stmt:=bJ (top 20) 6
abbrev dI:Stmt:=bJ (top 20) 7
abbrev dQ:Stmt:=bJ (top 20) 8
abbrev cC:Stmt:=bJ (top 20) 9
abbrev bS:Stmt:=bJ (top 20) 10
abbrev st_is_power:Stmt:=top 21
abbrev jM:Stmt:=top 22
abbrev st_is_text:Stmt:=top 34
abbrev fQ:Stmt:=top 35
abbrev st_spelled:Stmt:=top 36
abbrev st_parts_of:Stmt:=top 37
abbrev st_lines_of:Stmt:=top 38
abbrev st_words_of:Stmt:=top 39
abbrev st_line_of:Stmt:=top 40
abbrev fV:Stmt:=top 41
abbrev cR:Stmt:=top 42
abbrev dH:Stmt:=top 43
abbrev st_is_name:Stmt:=top 44
abbrev iL:Stmt:=top 45
abbrev iM:Stmt:=top 46
abbrev cK:Stmt:=top 55
abbrev fR:Stmt:=top 56
abbrev iO:Stmt:=top 57
abbrev jN:Stmt:=top 58
abbrev st_can_stand:Stmt:=top 59
abbrev st_add_unit:Stmt:=top 60
abbrev kJ:Stmt:=top 61
abbrev gT:Stmt:=bJ (top 73) 0
abbrev st_no_place:Stmt:=top 74
abbrev st_read_shore:Stmt:=top 75
abbrev st_read_place:Stmt:=top 76
abbrev fD:Stmt:=top 77
abbrev st_place_word:Stmt:=top 79
abbrev st_move_words:Stmt:=top 80
abbrev kK:Stmt:=top 81
abbrev st_unit_line:Stmt:=top 82
abbrev jL:Stmt:=top 83
abbrev gA:Stmt:=bJ (top 85) 0
abbrev fZ:Stmt:=bJ (top 85) 1
abbrev dU:Stmt:=bJ (top 85) 2
abbrev dJ:Stmt:=bJ (top 85) 3
abbrev fY:Stmt:=bJ (top 85) 4
abbrev fG:Stmt:=bJ (top 87) 0
abbrev st_wrong:Stmt:=top 88
abbrev jI:Stmt:=top 89
abbrev fE:Stmt:=top 90
abbrev iN:Stmt:=top 91
abbrev st_read_hold:Stmt:=top 92
abbrev jJ:Stmt:=top 93
abbrev st_read_move:Stmt:=top 94
abbrev st_read_goal:Stmt:=top 95
abbrev st_read_help:Stmt:=top 96
abbrev st_read_order:Stmt:=top 97
abbrev st_read_line:Stmt:=top 98
abbrev jK:Stmt:=top 103
abbrev st_take_line:Stmt:=top 104
abbrev fC:Stmt:=top 105
abbrev kL:Stmt:=top 106
abbrev st_read_text:Stmt:=top 107
abbrev st_reaches:Stmt:=top 118
abbrev kM:Stmt:=top 119
abbrev kG:Stmt:=top 120
abbrev kH:Stmt:=top 121
abbrev gO:Stmt:=top 122
abbrev cN:Stmt:=top 123
abbrev fU:Stmt:=top 124
abbrev jH:Stmt:=top 125
abbrev iK:Stmt:=top 128
abbrev st_tell_order:Stmt:=top 129
abbrev gP:Stmt:=top 130
abbrev kI:Stmt:=top 131
abbrev fW:Stmt:=top 145
abbrev kO:Stmt:=top 146
abbrev st_answer_sea:Stmt:=top 147
abbrev st_answer_man:Stmt:=top 148
abbrev kN:Stmt:=top 149
abbrev gQ:Stmt:=top 150
abbrev st_answers:Stmt:=top 151
structure DefAt (K:Frag)(x:Str)(st:Stmt):Prop where
 raw:∃ (f:Addr)(oc:Value)(od an:Option Addr)(osl:Array (Option Value))(kV doc pm cdv ct:Value),nsIn K mainGlobals x=some (some (.ref f))/\K.lookup f=some ⟨oc,od,.func (fnOf x x (hX st) (fT st) (dS st) .none kV doc pm an cdv ct),osl⟩/\codeIn K cdv x=true/\keepIn K (.ref f)=true
structure MethAt (K:Frag)(C:Addr)(m qual:Str)(st:Stmt):Prop where
 raw:∃ (f:Addr)(oc:Value)(od an:Option Addr)(osl:Array (Option Value))(kV doc pm cdv ct:Value),(findIn K (.ref C) m=some (some (.ref f))/\isFn K (.ref f)=true)/\K.lookup f=some ⟨oc,od,.func (fnOf m qual (hX st) (fT st) (dS st) .none kV doc pm an cdv ct),osl⟩/\codeIn K cdv qual=true/\keepIn K (.ref f)=true
structure ClsAt (K:Frag)(x:Str)(C:Addr):Prop where
 at_:nsIn K mainGlobals x=some (some (.ref C))
 pg:plainGet K C Str.empty=true
 hd:hasDictIn K C=true
 po:plainOver K C=true
 sa:findIn K (.ref C) "__setattr__" = some (some (.builtin "object.__setattr__"))
 mk_:makesIn K C=true
 kp:keepIn K (.ref C)=true
structure ConAt (K:Frag)(x:Str) (n:Int):Prop where
 raw:∃ u,nsIn K mainGlobals x=some (some u)/\∃ t,u=.int n t
def IntsAt:List Int->List Value->Prop
 | [],[]=>True
 | n::r,u::s=>(∃ t,u=.int n t)/\IntsAt r s
 | _,_=>False
structure TupAt (K:Frag)(a:Addr)(ns:List Int):Prop where
 raw:∃ (od:Option Addr)(its:Array Value)(n:Nat)(osl:Array (Option Value)),K.lookup a=some ⟨.type "tuple",od,.seq its n,osl⟩/\its.size<=8/\IntsAt ns its.toList
section
variable {K:Frag}{x m qual:Str}{st:Stmt}{f C:Addr}{oc:Value}{od an:Option Addr}{osl:Array (Option Value)}{kV doc pm cdv ct:Value}
theorem DefAt.is (a:nsIn K mainGlobals x=some (some (.ref f)))(l:K.lookup f=some ⟨oc,od,.func (fnOf x x (hX st) (fT st) (dS st) .none kV doc pm an cdv ct),osl⟩)
  (c:codeIn K cdv x=true)(k:keepIn K (.ref f)=true):DefAt K x st:=⟨f,oc,od,an,osl,kV,doc,pm,cdv,ct,a,l,c,k⟩
theorem MethAt.is (a:findIn K (.ref C) m=some (some (.ref f)))(i:isFn K (.ref f)=true)(l:K.lookup f=some ⟨oc,od,.func (fnOf m qual (hX st) (fT st) (dS st) .none kV doc pm an cdv ct),osl⟩)
  (c:codeIn K cdv qual=true)(k:keepIn K (.ref f)=true):MethAt K C m qual st:=⟨f,oc,od,an,osl,kV,doc,pm,cdv,ct,⟨a,i⟩,l,c,k⟩
theorem ConAt.is {n:Int}{u:Value}(a:nsIn K mainGlobals x=some (some u))(r:∃ t,u=.int n t):ConAt K x n:=⟨u,a,r⟩
theorem TupAt.is {a:Addr}{ns:List Int}{its:Array Value}{n:Nat}(l:K.lookup a=some ⟨.type "tuple",od,.seq its n,osl⟩)(h:its.size<=8/\IntsAt ns its.toList):TupAt K a ns:=⟨od,its,n,osl,l,h⟩
end
structure Top (K:Frag)(cProvince cUnit cTable cPlace cReader cReading a_HOLD:Addr):Prop where
 c_Province:ClsAt K "Province" cProvince
 c_Unit:ClsAt K "Unit" cUnit
 c_Table:ClsAt K "Table" cTable
 c_Place:ClsAt K "Place" cPlace
 c_Reader:ClsAt K "Reader" cReader
 c_Reading:ClsAt K "Reading" cReading
 nf_Province_kind:W.findIn K (.ref cProvince) "kind" = some none
 nf_Province_name:W.findIn K (.ref cProvince) "name" = some none
 nf_Province_short_name:W.findIn K (.ref cProvince) "short_name" = some none
 nf_Province_shores:W.findIn K (.ref cProvince) "shores" = some none
 nf_Unit_power:W.findIn K (.ref cUnit) "power" = some none
 nf_Unit_fleet:W.findIn K (.ref cUnit) "fleet" = some none
 nf_Unit_shore:W.findIn K (.ref cUnit) "shore" = some none
 nf_Unit_order:W.findIn K (.ref cUnit) "order" = some none
 nf_Table_provinces:W.findIn K (.ref cTable) "provinces" = some none
 nf_Table_land_links:W.findIn K (.ref cTable) "land_links" = some none
 nf_Table_sea_links:W.findIn K (.ref cTable) "sea_links" = some none
 nf_Table_units:W.findIn K (.ref cTable) "units" = some none
 nf_Place_error:W.findIn K (.ref cPlace) "error" = some none
 nf_Place_province:W.findIn K (.ref cPlace) "province" = some none
 nf_Place_shore:W.findIn K (.ref cPlace) "shore" = some none
 nf_Reader_numbers:W.findIn K (.ref cReader) "numbers" = some none
 nf_Reader_place:W.findIn K (.ref cReader) "place" = some none
 nf_Reading_error:W.findIn K (.ref cReading) "error" = some none
 nf_Reading_province:W.findIn K (.ref cReading) "province" = some none
 nf_Reading_order:W.findIn K (.ref cReading) "order" = some none
 g_HOLD:W.nsIn K mainGlobals "HOLD" = some (some (.ref a_HOLD))
 t_HOLD:TupAt K a_HOLD [0,0,0,0]
 g_LAST_POWER:ConAt K "LAST_POWER" 6
 g_BLANK:ConAt K "BLANK" 32
 g_LAST_PRINTABLE:ConAt K "LAST_PRINTABLE" 126
 g_LINE_END:ConAt K "LINE_END" 10
 g_GREAT_A:ConAt K "GREAT_A" 65
 g_GREAT_Z:ConAt K "GREAT_Z" 90
 g_SMALL_A:ConAt K "SMALL_A" 97
 g_SMALL_Z:ConAt K "SMALL_Z" 122
 g_LONGEST_NAME:ConAt K "LONGEST_NAME" 16
 g_SHORT_NAME:ConAt K "SHORT_NAME" 3
 g_LONGEST_SHORE_NAME:ConAt K "LONGEST_SHORE_NAME" 8
 g_FEWEST_SHORES:ConAt K "FEWEST_SHORES" 2
 g_MOST_SHORES:ConAt K "MOST_SHORES" 4
 g_COAST:ConAt K "COAST" 2
 g_MOST_PROVINCES:ConAt K "MOST_PROVINCES" 40
 g_FULL:ConAt K "FULL" (-2)
 g_TAKEN:ConAt K "TAKEN" (-4)
 g_UNFIT:ConAt K "UNFIT" (-3)
 g_LONGEST_TEXT_building:ConAt K "LONGEST_TEXT_building" 40
 g_OUT_OF_RANGE:ConAt K "OUT_OF_RANGE" (-1)
 g_SEA:ConAt K "SEA" 1
 g_LAND:ConAt K "LAND" 0
 g_MOST_LAND_LINKS:ConAt K "MOST_LAND_LINKS" 300
 g_MOST_SEA_LINKS:ConAt K "MOST_SEA_LINKS" 300
 g_FLEET:ConAt K "FLEET" 1
 g_MOST_UNITS:ConAt K "MOST_UNITS" 24
 g_ARMY:ConAt K "ARMY" 0
 g_MISSING:ConAt K "MISSING" (-5)
 g_NO_SHORE:ConAt K "NO_SHORE" 4
 g_SEVERAL_PROVINCES:ConAt K "SEVERAL_PROVINCES" 3
 g_NO_PROVINCE:ConAt K "NO_PROVINCE" 2
 g_SLASH:ConAt K "SLASH" 47
 g_MALFORMED:ConAt K "MALFORMED" 1
 g_SUPPORT_OF_MOVE:ConAt K "SUPPORT_OF_MOVE" 3
 g_SUPPORT:ConAt K "SUPPORT" 2
 g_MOVE:ConAt K "MOVE" 1
 g_HOLDING:ConAt K "HOLDING" 0
 g_OTHER_UNIT:ConAt K "OTHER_UNIT" 6
 g_NO_UNIT:ConAt K "NO_UNIT" 5
 g_SEVERAL_SHORES:ConAt K "SEVERAL_SHORES" 9
 g_ARMY_TO_SHORE:ConAt K "ARMY_TO_SHORE" 8
 g_CARRYING:ConAt K "CARRYING" 4
 g_REMARK:ConAt K "REMARK" 35
 g_TOLD_TWICE:ConAt K "TOLD_TWICE" 7
 g_MOST_WRONG_LINES:ConAt K "MOST_WRONG_LINES" 20
 g_LONGEST_TEXT_reading:ConAt K "LONGEST_TEXT_reading" 2000
 g_COUNTS:ConAt K "COUNTS" 0
 g_NO_WAY:ConAt K "NO_WAY" 2
 g_TO_OWN_PROVINCE:ConAt K "TO_OWN_PROVINCE" 1
 g_NO_UNIT_THERE:ConAt K "NO_UNIT_THERE" 7
 g_OUT_OF_REACH:ConAt K "OUT_OF_REACH" 3
 g_OWN_OR_SAME_PROVINCE:ConAt K "OWN_OR_SAME_PROVINCE" 4
 g_FLEET_CARRIED:ConAt K "FLEET_CARRIED" 8
 g_CARRIED_NOWHERE:ConAt K "CARRIED_NOWHERE" 6
 g_NO_FLEET_AT_SEA:ConAt K "NO_FLEET_AT_SEA" 5
 g_LONGEST_WORD:ConAt K "LONGEST_WORD" 40
 g_ORDERS:ConAt K "ORDERS" 10
 g_FIND:ConAt K "FIND" 9
 g_ORDER:ConAt K "ORDER" 8
 g_PRINTED:ConAt K "PRINTED" 7
 g_READ:ConAt K "READ" 6
 g_GONE:ConAt K "GONE" 5
 g_MAN:ConAt K "MAN" 4
 g_SEA_LINK:ConAt K "SEA_LINK" 3
 g_LAND_LINK:ConAt K "LAND_LINK" 2
 g_PROVINCE:ConAt K "PROVINCE" 1
 g_CLEAR:ConAt K "CLEAR" 0
 n_max:W.nsIn K mainGlobals "max" = some none
 n_len:W.nsIn K mainGlobals "len" = some none
 n_any:W.nsIn K mainGlobals "any" = some none
 n_enumerate:W.nsIn K mainGlobals "enumerate" = some none
 n_range:W.nsIn K mainGlobals "range" = some none
 n_sorted:W.nsIn K mainGlobals "sorted" = some none
 n_min:W.nsIn K mainGlobals "min" = some none
 n_all:W.nsIn K mainGlobals "all" = some none
 n_tuple:W.nsIn K mainGlobals "tuple" = some none
 n_ord:W.nsIn K mainGlobals "ord" = some none
 n_set:W.nsIn K mainGlobals "set" = some none
 n_list:W.nsIn K mainGlobals "list" = some none
 m_Reader_has_more:MethAt K cReader "has_more" "Reader.has_more" fZ
 m_Table_provinces_with_units:MethAt K cTable "provinces_with_units" "Table.provinces_with_units" bS
 m_Table_has_kind:MethAt K cTable "has_kind" "Table.has_kind" gR
 d_why_of_carrying:DefAt K "why_of_carrying" fU
 d_link_between:DefAt K "link_between" jM
 m_Table_has_land_link:MethAt K cTable "has_land_link" "Table.has_land_link" dI
 m_Province_count_shores:MethAt K cProvince "count_shores" "Province.count_shores" cU
 m_Table_has_sea_link:MethAt K cTable "has_sea_link" "Table.has_sea_link" dQ
 m_Table_linked_shores:MethAt K cTable "linked_shores" "Table.linked_shores" cC
 d_reaches:DefAt K "reaches" st_reaches
 d_why_of_help:DefAt K "why_of_help" kH
 d_why_of_support_of_move:DefAt K "why_of_support_of_move" cN
 d_why_of_support:DefAt K "why_of_support" gO
 d_army_can_go:DefAt K "army_can_go" kM
 d_why_of_move:DefAt K "why_of_move" kG
 d_why_of_order:DefAt K "why_of_order" jH
 d_order_and_why:DefAt K "order_and_why" iK
 d_tell_orders:DefAt K "tell_orders" kI
 m_Province_has_beginning:MethAt K cProvince "has_beginning" "Province.has_beginning" cO
 m_Province_is_called:MethAt K cProvince "is_called" "Province.is_called" dW
 m_Table_provinces_meant:MethAt K cTable "provinces_meant" "Table.provinces_meant" aY
 d_is_text:DefAt K "is_text" st_is_text
 d_find_provinces:DefAt K "find_provinces" gP
 m_Reader_take_numbers:MethAt K cReader "take_numbers" "Reader.take_numbers" dJ
 m_Reader_take_number:MethAt K cReader "take_number" "Reader.take_number" dU
 m_Reader_take_row:MethAt K cReader "take_row" "Reader.take_row" fY
 m_Table_has_province:MethAt K cTable "has_province" "Table.has_province" dR
 d_tell_order:DefAt K "tell_order" st_tell_order
 d_line_of:DefAt K "line_of" st_line_of
 d_place_word:DefAt K "place_word" st_place_word
 d_spelled:DefAt K "spelled" st_spelled
 d_move_words:DefAt K "move_words" st_move_words
 d_order_words:DefAt K "order_words" kK
 d_unit_line:DefAt K "unit_line" st_unit_line
 d_is_power:DefAt K "is_power" st_is_power
 d_print_orders:DefAt K "print_orders" jL
 d_give_orders:DefAt K "give_orders" kL
 d_tell_wrong_lines:DefAt K "tell_wrong_lines" fC
 d_parts_of:DefAt K "parts_of" st_parts_of
 d_lines_of:DefAt K "lines_of" st_lines_of
 m_Reading___init__:MethAt K cReading "__init__" "Reading.__init__" fG
 d_wrong:DefAt K "wrong" st_wrong
 m_Place___init__:MethAt K cPlace "__init__" "Place.__init__" gT
 d_no_place:DefAt K "no_place" st_no_place
 d_read_shore:DefAt K "read_shore" st_read_shore
 d_read_place:DefAt K "read_place" st_read_place
 d_read_goal:DefAt K "read_goal" st_read_goal
 d_read_first_place:DefAt K "read_first_place" fD
 d_unit_word_of:DefAt K "unit_word_of" jI
 d_behind_unit_word:DefAt K "behind_unit_word" fE
 d_read_help:DefAt K "read_help" st_read_help
 d_shores_meant:DefAt K "shores_meant" jJ
 d_read_move:DefAt K "read_move" st_read_move
 d_read_hold:DefAt K "read_hold" st_read_hold
 d_read_order:DefAt K "read_order" st_read_order
 d_error_of_unit:DefAt K "error_of_unit" iN
 d_read_line:DefAt K "read_line" st_read_line
 d_says_nothing:DefAt K "says_nothing" jK
 d_words_of:DefAt K "words_of" st_words_of
 d_is_printable:DefAt K "is_printable" fQ
 d_take_line:DefAt K "take_line" st_take_line
 d_read_text:DefAt K "read_text" st_read_text
 d_answer_read:DefAt K "answer_read" kN
 d_remove_unit:DefAt K "remove_unit" kJ
 m_Unit___init__:MethAt K cUnit "__init__" "Unit.__init__" iP
 d_can_stand:DefAt K "can_stand" st_can_stand
 m_Table_has_shore:MethAt K cTable "has_shore" "Table.has_shore" fX
 d_add_unit:DefAt K "add_unit" st_add_unit
 d_answer_man:DefAt K "answer_man" st_answer_man
 d_add_sea_link:DefAt K "add_sea_link" jN
 d_answer_sea:DefAt K "answer_sea" st_answer_sea
 d_add_land_link:DefAt K "add_land_link" iO
 d_answer_land:DefAt K "answer_land" kO
 m_Province___init__:MethAt K cProvince "__init__" "Province.__init__" eL
 m_Table_has_name:MethAt K cTable "has_name" "Table.has_name" dZ
 d_are_small_letters:DefAt K "are_small_letters" cR
 d_is_shore_name:DefAt K "is_shore_name" iM
 d_are_fitting_shores:DefAt K "are_fitting_shores" cK
 d_is_great_letter:DefAt K "is_great_letter" fV
 d_is_great_then_small:DefAt K "is_great_then_small" dH
 d_is_short_name:DefAt K "is_short_name" iL
 d_is_name:DefAt K "is_name" st_is_name
 d_add_province:DefAt K "add_province" fR
 d_answer_province:DefAt K "answer_province" fW
 m_Table_make_empty:MethAt K cTable "make_empty" "Table.make_empty" fF
 d_answer_call:DefAt K "answer_call" gQ
 m_Reader___init__:MethAt K cReader "__init__" "Reader.__init__" gA
 m_Table___init__:MethAt K cTable "__init__" "Table.__init__" gS
 d_answers:DefAt K "answers" st_answers
end Ol
namespace Oh
open PySem PySem.Spec PySem.W PyProof.Rows L2 Ol
class CC:Prop where
 c:∀ (q:Program)(loose:List Str)(XP:(Str->Option Value)->Heap->Prop)(K:Params->Frag)(d:DefRec),d.params.defaults=[]->d.name = "answers" -> (∀ w:World,∃ cProvince cUnit cTable cPlace cReader cReading a_HOLD,Top (K w.params) cProvince cUnit cTable cPlace cReader cReading a_HOLD)->WalkOS q loose XP (InK K) PySem.Challenge.rw_orderlines_s01_answers d [] (fun f vs=>PySem.call f vs)
abbrev WalkC [CC] (p:Prop):Prop:=p
theorem PySem.W.holds_os [CC] {α:Type}{Yf:Shared->α}{Ya:World->α}{YP:World->Heap->Prop}{Xt:Shared->Bool}{XP:(Str->Option Value)->Heap->Prop}{o:OpenSpec}{q:Program}{loose:List Str}{N:Nat}{e:DefRec}{ks:List (Str×Expr)}(x1:LeftO o.prog q loose Xt Yf Ya N)(x2:∀ u v,Yf v=Ya u->YP u v.heap)(x3:∀ u a b,YP u a->(∀ i z,a.get? i=some z->b.get? i=some z)->YP u b)(x4:∀ v,Xt v=true->XP (v.heap.nsMap mainGlobals) v.heap)(x5:∀ g a b,XP g a->(∀ i z,a.get? i=some z->b.get? i=some z)->XP g b)(x6:defOf q o.name=some (e,ks))(x7:o.prog.theDef o.name=some (e.params,e.body,e.scope))(x8:kwWritten? e.params.kwonlyargs e.params.kw_defaults=some ks)(x9:∀ v,Xt v=true->RecFacts [] v.heap)(y1:∀ l,o.pre l=true->WShape.hasAll [] l (o.args.map Codec.shape)=true)(y2:o.wellSaid=true)(y3:(chainsOk q&&opensWell o.prog)=true)(y4:o.prog.bare)(y5:∃ l,o.pre l=true/\WData.layableAll l=true)(y6:WalkC (WalkOS q loose XP YP o e ks fun f vs=>PySem.call f vs)):o.Holds:=_root_.PySem.W.holds_os x1 x2 x3 x4 x5 x6 x7 x8 x9 y1 y2 y3 y4 y5 y6
local macro_rules | `(tactic| walk_at "def")=>`(tactic| (refine' DefAt.is ?a ?l ?c ?k;(case a=>k_is);(case l=>k_is);(case c=>k_is);(case k=>k_is)))
local macro_rules | `(tactic| walk_at "meth")=>`(tactic| (refine' MethAt.is ?a ?i ?l ?c ?k;(case a=>k_is);(case i=>k_is);(case l=>k_is);(case c=>k_is);(case k=>k_is)))
local macro_rules | `(tactic| walk_at "cls")=>`(tactic| (refine' ClsAt.mk ?a ?pg ?hd ?po ?sa ?mk ?kc;(case a=>k_is);(case pg=>k_is);(case hd=>k_is);(case po=>k_is);(case sa=>k_is);(case mk=>k_is);(case kc=>k_is)))
local macro_rules | `(tactic| walk_at "con")=>`(tactic| (refine' ConAt.is ?a ?r;(case a=>k_is);(case r=>exact⟨_,rfl⟩)))
local macro_rules | `(tactic| walk_at "tup")=>`(tactic| (refine' TupAt.is ?l ?h;(case l=>k_is);(case h=>exact⟨by decide,⟨_,rfl⟩,⟨_,rfl⟩,⟨_,rfl⟩,⟨_,rfl⟩,trivial⟩)))
set_option maxHeartbeats 0 in
theorem hd [CC]:PySem.Challenge.rw_orderlines_s01_answers.Holds:=by
 w_on;k_headS;(case hw=>exact⟨[.list [.int 0]],by decide +kernel,by decide +kernel⟩)
 k_fillS
 refine CC.c _ _ _ _ _ rfl rfl fun w=>?T
 refine' ⟨_,_,_,_,_,_,_,Top.mk ?c_Province ?c_Unit ?c_Table ?c_Place ?c_Reader ?c_Reading ?nf_Province_kind ?nf_Province_name ?nf_Province_short_name ?nf_Province_shores ?nf_Unit_power ?nf_Unit_fleet ?nf_Unit_shore ?nf_Unit_order ?nf_Table_provinces ?nf_Table_land_links ?nf_Table_sea_links ?nf_Table_units ?nf_Place_error ?nf_Place_province ?nf_Place_shore ?nf_Reader_numbers ?nf_Reader_place ?nf_Reading_error ?nf_Reading_province ?nf_Reading_order ?g_HOLD ?t_HOLD ?g_LAST_POWER ?g_BLANK ?g_LAST_PRINTABLE ?g_LINE_END ?g_GREAT_A ?g_GREAT_Z ?g_SMALL_A ?g_SMALL_Z ?g_LONGEST_NAME ?g_SHORT_NAME ?g_LONGEST_SHORE_NAME ?g_FEWEST_SHORES ?g_MOST_SHORES ?g_COAST ?g_MOST_PROVINCES ?g_FULL ?g_TAKEN ?g_UNFIT ?g_LONGEST_TEXT_building ?g_OUT_OF_RANGE ?g_SEA ?g_LAND ?g_MOST_LAND_LINKS ?g_MOST_SEA_LINKS ?g_FLEET ?g_MOST_UNITS ?g_ARMY ?g_MISSING ?g_NO_SHORE ?g_SEVERAL_PROVINCES ?g_NO_PROVINCE ?g_SLASH ?g_MALFORMED ?g_SUPPORT_OF_MOVE ?g_SUPPORT ?g_MOVE ?g_HOLDING ?g_OTHER_UNIT ?g_NO_UNIT ?g_SEVERAL_SHORES ?g_ARMY_TO_SHORE ?g_CARRYING ?g_REMARK ?g_TOLD_TWICE ?g_MOST_WRONG_LINES ?g_LONGEST_TEXT_reading ?g_COUNTS ?g_NO_WAY ?g_TO_OWN_PROVINCE ?g_NO_UNIT_THERE ?g_OUT_OF_REACH ?g_OWN_OR_SAME_PROVINCE ?g_FLEET_CARRIED ?g_CARRIED_NOWHERE ?g_NO_FLEET_AT_SEA ?g_LONGEST_WORD ?g_ORDERS ?g_FIND ?g_ORDER ?g_PRINTED ?g_READ ?g_GONE ?g_MAN ?g_SEA_LINK ?g_LAND_LINK ?g_PROVINCE ?g_CLEAR ?n_max ?n_len ?n_any ?n_enumerate ?n_range ?n_sorted ?n_min ?n_all ?n_tuple ?n_ord ?n_set ?n_list ?m_Reader_has_more ?m_Table_provinces_with_units ?m_Table_has_kind ?d_why_of_carrying ?d_link_between ?m_Table_has_land_link ?m_Province_count_shores ?m_Table_has_sea_link ?m_Table_linked_shores ?d_reaches ?d_why_of_help ?d_why_of_support_of_move ?d_why_of_support ?d_army_can_go ?d_why_of_move ?d_why_of_order ?d_order_and_why ?d_tell_orders ?m_Province_has_beginning ?m_Province_is_called ?m_Table_provinces_meant ?d_is_text ?d_find_provinces ?m_Reader_take_numbers ?m_Reader_take_number ?m_Reader_take_row ?m_Table_has_province ?d_tell_order ?d_line_of ?d_place_word ?d_spelled ?d_move_words ?d_order_words ?d_unit_line ?d_is_power ?d_print_orders ?d_give_orders ?d_tell_wrong_lines ?d_parts_of ?d_lines_of ?m_Reading___init__ ?d_wrong ?m_Place___init__ ?d_no_place ?d_read_shore ?d_read_place ?d_read_goal ?d_read_first_place ?d_unit_word_of ?d_behind_unit_word ?d_read_help ?d_shores_meant ?d_read_move ?d_read_hold ?d_read_order ?d_error_of_unit ?d_read_line ?d_says_nothing ?d_words_of ?d_is_printable ?d_take_line ?d_read_text ?d_answer_read ?d_remove_unit ?m_Unit___init__ ?d_can_stand ?m_Table_has_shore ?d_add_unit ?d_answer_man ?d_add_sea_link ?d_answer_sea ?d_add_land_link ?d_answer_land ?m_Province___init__ ?m_Table_has_name ?d_are_small_letters ?d_is_shore_name ?d_are_fitting_shores ?d_is_great_letter ?d_is_great_then_small ?d_is_short_name ?d_is_name ?d_add_province ?d_answer_province ?m_Table_make_empty ?d_answer_call ?m_Reader___init__ ?m_Table___init__ ?d_answers⟩
 case c_Province=>walk_at "cls"
 case c_Unit=>walk_at "cls"
 case c_Table=>walk_at "cls"
 case c_Place=>walk_at "cls"
 case c_Reader=>walk_at "cls"
 case c_Reading=>walk_at "cls"
 case nf_Province_kind=>k_is
 case nf_Province_name=>k_is
 case nf_Province_short_name=>k_is
 case nf_Province_shores=>k_is
 case nf_Unit_power=>k_is
 case nf_Unit_fleet=>k_is
 case nf_Unit_shore=>k_is
 case nf_Unit_order=>k_is
 case nf_Table_provinces=>k_is
 case nf_Table_land_links=>k_is
 case nf_Table_sea_links=>k_is
 case nf_Table_units=>k_is
 case nf_Place_error=>k_is
 case nf_Place_province=>k_is
 case nf_Place_shore=>k_is
 case nf_Reader_numbers=>k_is
 case nf_Reader_place=>k_is
 case nf_Reading_error=>k_is
 case nf_Reading_province=>k_is
 case nf_Reading_order=>k_is
 case g_HOLD=>k_is
 case t_HOLD=>walk_at "tup"
 case g_LAST_POWER=>walk_at "con"
 case g_BLANK=>walk_at "con"
 case g_LAST_PRINTABLE=>walk_at "con"
 case g_LINE_END=>walk_at "con"
 case g_GREAT_A=>walk_at "con"
 case g_GREAT_Z=>walk_at "con"
 case g_SMALL_A=>walk_at "con"
 case g_SMALL_Z=>walk_at "con"
 case g_LONGEST_NAME=>walk_at "con"
 case g_SHORT_NAME=>walk_at "con"
 case g_LONGEST_SHORE_NAME=>walk_at "con"
 case g_FEWEST_SHORES=>walk_at "con"
 case g_MOST_SHORES=>walk_at "con"
 case g_COAST=>walk_at "con"
 case g_MOST_PROVINCES=>walk_at "con"
 case g_FULL=>walk_at "con"
 case g_TAKEN=>walk_at "con"
 case g_UNFIT=>walk_at "con"
 case g_LONGEST_TEXT_building=>walk_at "con"
 case g_OUT_OF_RANGE=>walk_at "con"
 case g_SEA=>walk_at "con"
 case g_LAND=>walk_at "con"
 case g_MOST_LAND_LINKS=>walk_at "con"
 case g_MOST_SEA_LINKS=>walk_at "con"
 case g_FLEET=>walk_at "con"
 case g_MOST_UNITS=>walk_at "con"
 case g_ARMY=>walk_at "con"
 case g_MISSING=>walk_at "con"
 case g_NO_SHORE=>walk_at "con"
 case g_SEVERAL_PROVINCES=>walk_at "con"
 case g_NO_PROVINCE=>walk_at "con"
 case g_SLASH=>walk_at "con"
 case g_MALFORMED=>walk_at "con"
 case g_SUPPORT_OF_MOVE=>walk_at "con"
 case g_SUPPORT=>walk_at "con"
 case g_MOVE=>walk_at "con"
 case g_HOLDING=>walk_at "con"
 case g_OTHER_UNIT=>walk_at "con"
 case g_NO_UNIT=>walk_at "con"
 case g_SEVERAL_SHORES=>walk_at "con"
 case g_ARMY_TO_SHORE=>walk_at "con"
 case g_CARRYING=>walk_at "con"
 case g_REMARK=>walk_at "con"
 case g_TOLD_TWICE=>walk_at "con"
 case g_MOST_WRONG_LINES=>walk_at "con"
 case g_LONGEST_TEXT_reading=>walk_at "con"
 case g_COUNTS=>walk_at "con"
 case g_NO_WAY=>walk_at "con"
 case g_TO_OWN_PROVINCE=>walk_at "con"
 case g_NO_UNIT_THERE=>walk_at "con"
 case g_OUT_OF_REACH=>walk_at "con"
 case g_OWN_OR_SAME_PROVINCE=>walk_at "con"
 case g_FLEET_CARRIED=>walk_at "con"
 case g_CARRIED_NOWHERE=>walk_at "con"
 case g_NO_FLEET_AT_SEA=>walk_at "con"
 case g_LONGEST_WORD=>walk_at "con"
 case g_ORDERS=>walk_at "con"
 case g_FIND=>walk_at "con"
 case g_ORDER=>walk_at "con"
 case g_PRINTED=>walk_at "con"
 case g_READ=>walk_at "con"
 case g_GONE=>walk_at "con"
 case g_MAN=>walk_at "con"
 case g_SEA_LINK=>walk_at "con"
 case g_LAND_LINK=>walk_at "con"
 case g_PROVINCE=>walk_at "con"
 case g_CLEAR=>walk_at "con"
 case n_max=>k_is
 case n_len=>k_is
 case n_any=>k_is
 case n_enumerate=>k_is
 case n_range=>k_is
 case n_sorted=>k_is
 case n_min=>k_is
 case n_all=>k_is
 case n_tuple=>k_is
 case n_ord=>k_is
 case n_set=>k_is
 case n_list=>k_is
 case m_Reader_has_more=>walk_at "meth"
 case m_Table_provinces_with_units=>walk_at "meth"
 case m_Table_has_kind=>walk_at "meth"
 case d_why_of_carrying=>walk_at "def"
 case d_link_between=>walk_at "def"
 case m_Table_has_land_link=>walk_at "meth"
 case m_Province_count_shores=>walk_at "meth"
 case m_Table_has_sea_link=>walk_at "meth"
 case m_Table_linked_shores=>walk_at "meth"
 case d_reaches=>walk_at "def"
 case d_why_of_help=>walk_at "def"
 case d_why_of_support_of_move=>walk_at "def"
 case d_why_of_support=>walk_at "def"
 case d_army_can_go=>walk_at "def"
 case d_why_of_move=>walk_at "def"
 case d_why_of_order=>walk_at "def"
 case d_order_and_why=>walk_at "def"
 case d_tell_orders=>walk_at "def"
 case m_Province_has_beginning=>walk_at "meth"
 case m_Province_is_called=>walk_at "meth"
 case m_Table_provinces_meant=>walk_at "meth"
 case d_is_text=>walk_at "def"
 case d_find_provinces=>walk_at "def"
 case m_Reader_take_numbers=>walk_at "meth"
 case m_Reader_take_number=>walk_at "meth"
 case m_Reader_take_row=>walk_at "meth"
 case m_Table_has_province=>walk_at "meth"
 case d_tell_order=>walk_at "def"
 case d_line_of=>walk_at "def"
 case d_place_word=>walk_at "def"
 case d_spelled=>walk_at "def"
 case d_move_words=>walk_at "def"
 case d_order_words=>walk_at "def"
 case d_unit_line=>walk_at "def"
 case d_is_power=>walk_at "def"
 case d_print_orders=>walk_at "def"
 case d_give_orders=>walk_at "def"
 case d_tell_wrong_lines=>walk_at "def"
 case d_parts_of=>walk_at "def"
 case d_lines_of=>walk_at "def"
 case m_Reading___init__=>walk_at "meth"
 case d_wrong=>walk_at "def"
 case m_Place___init__=>walk_at "meth"
 case d_no_place=>walk_at "def"
 case d_read_shore=>walk_at "def"
 case d_read_place=>walk_at "def"
 case d_read_goal=>walk_at "def"
 case d_read_first_place=>walk_at "def"
 case d_unit_word_of=>walk_at "def"
 case d_behind_unit_word=>walk_at "def"
 case d_read_help=>walk_at "def"
 case d_shores_meant=>walk_at "def"
 case d_read_move=>walk_at "def"
 case d_read_hold=>walk_at "def"
 case d_read_order=>walk_at "def"
 case d_error_of_unit=>walk_at "def"
 case d_read_line=>walk_at "def"
 case d_says_nothing=>walk_at "def"
 case d_words_of=>walk_at "def"
 case d_is_printable=>walk_at "def"
 case d_take_line=>walk_at "def"
 case d_read_text=>walk_at "def"
 case d_answer_read=>walk_at "def"
 case d_remove_unit=>walk_at "def"
 case m_Unit___init__=>walk_at "meth"
 case d_can_stand=>walk_at "def"
 case m_Table_has_shore=>walk_at "meth"
 case d_add_unit=>walk_at "def"
 case d_answer_man=>walk_at "def"
 case d_add_sea_link=>walk_at "def"
 case d_answer_sea=>walk_at "def"
 case d_add_land_link=>walk_at "def"
 case d_answer_land=>walk_at "def"
 case m_Province___init__=>walk_at "meth"
 case m_Table_has_name=>walk_at "meth"
 case d_are_small_letters=>walk_at "def"
 case d_is_shore_name=>walk_at "def"
 case d_are_fitting_shores=>walk_at "def"
 case d_is_great_letter=>walk_at "def"
 case d_is_great_then_small=>walk_at "def"
 case d_is_short_name=>walk_at "def"
 case d_is_name=>walk_at "def"
 case d_add_province=>walk_at "def"
 case d_answer_province=>walk_at "def"
 case m_Table_make_empty=>walk_at "meth"
 case d_answer_call=>walk_at "def"
 case m_Reader___init__=>walk_at "meth"
 case m_Table___init__=>walk_at "meth"
 case d_answers=>walk_at "def"
end Oh
end
section
namespace L2
open PySem PySem.Spec PyProof.Rows
abbrev Key:=Sum Int Str
def keyIs:Key->Value->Bool
 | .inl k,v=>Value.isInt k v
 | .inr x,v=>Value.isStrOf x v
def keyH (w:World):Key->Int
 | .inl k=>hashInt k
 | .inr x=>hashStr w x
theorem cT:∀ {k:Key}{v:Value},keyIs k v=true->(∃ i t,k=Sum.inl i/\v=Value.int i t)\/(∃ x t,k=Sum.inr x/\v=Value.str x t)
 | .inl i,v,h=>by
  obtain⟨t,e⟩:=Value.isInt_shape (k:=i) (v:=v) h
  exact .inl ⟨i,t,rfl,e⟩
 | .inr x,v,h=>by
  obtain⟨t,e⟩:=Value.isStrOf_shape (x:=x) (v:=v) h
  exact .inr ⟨x,t,rfl,e⟩
theorem keyIs_int (i:Int)(t:Tok):keyIs (.inl i) (.int i t)=true:=by simp [keyIs,Value.isInt]
theorem keyIs_str (x:Str)(t:Tok):keyIs (.inr x) (.str x t)=true:=by simp [keyIs,Value.isStrOf]
theorem key_ll (a b:Int):decide ((Sum.inl a:Key)=Sum.inl b)=(a==b):=by
 by_cases e:a=b
 ·subst e;simp
 ·have h:¬ (Sum.inl a:Key)=Sum.inl b:=fun q=>e (Sum.inl.inj q)
  rw [decide_eq_false h];exact(beq_eq_false_iff_ne.mpr e).symm
theorem key_rr (a b:Str):decide ((Sum.inr a:Key)=Sum.inr b)=decide (a=b):=by
 by_cases e:a=b
 ·subst e;simp
 ·have h:¬ (Sum.inr a:Key)=Sum.inr b:=fun q=>e (Sum.inr.inj q)
  rw [decide_eq_false h,decide_eq_false e]
theorem key_lr (a:Int)(b:Str):decide ((Sum.inl a:Key)=Sum.inr b)=false:=decide_eq_false (fun q=>nomatch q)
theorem key_rl (a:Str) (b:Int):decide ((Sum.inr a:Key)=Sum.inl b)=false:=decide_eq_false (fun q=>nomatch q)
def aS (prog:Program)(w:World):PySem.KeyKind prog w Key where
 is:=keyIs
 hash:=keyH w
 inj:=fun v a b ha hb=>by
  rcases cT ha with ⟨i,t,rfl,rfl⟩ | ⟨x,t,rfl,rfl⟩
  ·rcases cT hb with ⟨j,u,rfl,e⟩ | ⟨y,u,rfl,e⟩
   ·injection e with e1 _;rw [e1]
   ·exact nomatch e
  ·rcases cT hb with ⟨j,u,rfl,e⟩ | ⟨y,u,rfl,e⟩
   ·exact nomatch e
   ·injection e with e1 _;rw [e1]
 byValue:=fun k v h=>by
  rcases cT h with ⟨i,t,rfl,rfl⟩ | ⟨x,t,rfl,rfl⟩ <;> rfl
 pyHash:=fun hv h=>by
  rcases cT hv with ⟨i,t,rfl,rfl⟩ | ⟨x,t,rfl,rfl⟩
  ·exact wpAny_pyHash_int h
  ·exact wpAny_pyHash_str h
 eqBool:=fun hu hv h=>by
  rcases cT hu with ⟨i,t,rfl,rfl⟩ | ⟨x,t,rfl,rfl⟩
  ·rcases cT hv with ⟨j,u,rfl,rfl⟩ | ⟨y,u,rfl,rfl⟩
   ·rw [key_ll] at h;exact wpAny_eqBool_int h
   ·rw [key_lr] at h;exact SeqAt.EqAt.int_str i t y u _ _ _ _ h
  ·rcases cT hv with ⟨j,u,rfl,rfl⟩ | ⟨y,u,rfl,rfl⟩
   ·rw [key_rl] at h;exact SeqAt.EqAt.str_int x t j u _ _ _ _ h
   ·rw [key_rr] at h;exact wpAny_eqBool_str h
 «strs» := fun k x t v h=>by
  rcases cT h with ⟨i,u,rfl,e⟩ | ⟨y,u,rfl,e⟩
  ·exact nomatch e
  ·injection e with e1 _
   subst e1;cases v <;> rfl
theorem mixKind_int (prog:Program)(w:World) (i:Int)(t:Tok):(aS prog w).is (.inl i) (.int i t)=true:=keyIs_int i t
theorem mixKind_str (prog:Program)(w:World)(x:Str)(t:Tok):(aS prog w).is (.inr x) (.str x t)=true:=keyIs_str x t
end L2
namespace L2
open PySem PySem.Spec PyProof.Rows
inductive V where
 | non | bl (b:Bool) | int (i:Int) | str (x:Str) | byt (b:Array UInt8) | flt (b:UInt64) | ref (a:Addr) | ty (n:String)
 deriving DecidableEq
def RelV:V->Value->Prop
 | .non,u=>u=Value.none
 | .bl b,u=>u=Value.bool b
 | .int i,u=>∃ t,u=Value.int i t
 | .str x,u=>∃ t,u=Value.str x t
 | .byt b,u=>∃ t,u=Value.bytes b t
 | .flt b,u=>∃ t,u=Value.float b t
 | .ref a,u=>u=Value.ref a
 | .ty n,u=>u=Value.type n
abbrev Vals:List V->List Value->Prop:=Paired RelV
theorem Vals.length {xs:List V}{us:List Value}(r:Vals xs us):xs.length=us.length:=Paired.length r
theorem Vals.get:∀ {xs:List V}{us:List Value}{i:Nat}{x:V},Vals xs us->xs[i]?=some x->∃ u,us[i]?=some u/\RelV x u
 | _,_,_,_,.nil,e=>by simp at e
 | _,_,0,_,.cons r _,e=>by simp at e;subst e;exact⟨_,rfl,r⟩
 | _,_,i+1,x,.cons _ t,e=>by
  obtain⟨u,h1,h2⟩:=Vals.get (i:=i) (x:=x) t (by simpa using e)
  exact⟨u,by simpa using h1,h2⟩
theorem Vals.append:∀ {xs ys:List V}{us ws:List Value},Vals xs us->Vals ys ws->Vals (xs++ys) (us++ws)
 | _,_,_,_,.nil,s=>s
 | _,_,_,_,.cons r t,s=>.cons r (Vals.append t s)
theorem Vals.take:∀ {xs:List V}{us:List Value}(n:Nat),Vals xs us->Vals (xs.take n) (us.take n)
 | _,_,0,_=>.nil
 | _,_,_+1,.nil=>.nil
 | _,_,n+1,.cons r t=>.cons r (Vals.take n t)
theorem Vals.drop:∀ {xs:List V}{us:List Value}(n:Nat),Vals xs us->Vals (xs.drop n) (us.drop n)
 | _,_,0,r=>r
 | _,_,_+1,.nil=>.nil
 | _,_,n+1,.cons _ t=>Vals.drop n t
def RelO:Option V->Option Value->Prop
 | some v,some u=>RelV v u
 | none,none=>True
 | _,_=>False
def KV {κ:Type}:List (κ×V)->List (κ×Value)->Prop:=Paired fun(p:κ×V)(q:κ×Value)=>p.1=q.1/\RelV p.2 q.2
def kV:Key->V
 | .inl i=>.int i
 | .inr x=>.str x
inductive HO where
 | lst (xs:List V)
 | tup (xs:List V)
 | dK (kvs:List (Key×V)) | dT (kvs:List (List Key×V))
 | set (S:Int->Bool)(n:Nat)
 | ins (C dx:Addr)(fs:List (Str×V))
 | own (x:Addr)
 | xd (fs:List (Str×V))
 | met (f x:Addr)
 | rng (lo hi:Int)
 | frz (o:Obj)(u:HO)
 | tbl (ps:Array Value)
 | ext (φ:Heap->Prop)
abbrev Hp:=Addr->Option HO
def upd (H:Hp)(a:Addr)(o:HO):Hp:=fun b=>if b=a then some o else H b
theorem uS {H:Hp}{a:Addr}{o:HO}:upd H a o a=some o:=by unfold upd;rw [if_pos rfl]
theorem uN {H:Hp}{a b:Addr}{o:HO}(h:b≠a):upd H a o b=H b:=by unfold upd;rw [if_neg h]
theorem cB {H:Hp}{a:Addr}{o u:HO}:upd (upd H a o) a u=upd H a u:=by
 funext b;unfold upd;split <;> rfl
theorem bB {H:Hp}{a b:Addr}{o u:HO}(h:H a=some o)(h':H b=some u)(d:o≠u):a≠b:=by
 intro e;subst e;rw [h] at h';exact d (Option.some.inj h')
theorem nN {H:Hp}{a b:Addr}{o:HO}(h:H a=some o)(h':H b=none):a≠b:=by
 intro e;subst e;rw [h] at h';cases h'
def IsTupD (h:Heap)(a:Addr)(items:Array Value):Prop:=∃ o,h.get? a=some o/\o.cls=.type "tuple" /\ (∃ n,o.data=.seq items n)/\o.dict=none
theorem IsTupD.tup {h:Heap}{a:Addr}{items:Array Value}(x:IsTupD h a items):IsTup h a items:=let ⟨o,e,c,n,_⟩:=x;⟨o,e,c,n⟩
theorem IsTupD.lt {h:Heap}{a:Addr}{items:Array Value}(x:IsTupD h a items):a < h.objs.size:=x.tup.lt
theorem IsTupD.new (h:Heap)(items:Array Value):IsTupD (h.push {cls:=.type "tuple",data:=.seq items}) h.objs.size items:=⟨_,Heap.get?_push_size _ rfl,rfl,⟨_,rfl⟩,rfl⟩
section
variable (P:Program)(w:World)
def ObjOk (H:Hp)(h:Heap)(a:Addr):HO->Prop
 | .lst xs=>xs.length<=sizeLine/\∃ (its:List Value)(n:Nat),Vals xs its/\h.get? a=some {cls:=.type "list",data:=.seq its.toArray n}
 | .tup xs=>xs.length<=sizeLine/\∃ its:List Value,Vals xs its/\IsTupD h a its.toArray
 | .dK kvs=>kvs.length<=sizeLine/\(a==sysModules)=false/\∃ vs,KV kvs vs/\h.DictOf (aS P w) a vs
 | .dT kvs=>kvs.length<=sizeLine/\(a==sysModules)=false/\∃ xs:List (List Key×Addr×Value),
   Paired (fun(p:List Key×V)(q:List Key×Addr×Value)=>p.1=q.1/\H q.2.1=some (.tup (p.1.map kV))/\RelV p.2 q.2.2) kvs xs /\
   ∃ o es ep,h.get? a=some o/\o.ExactDict/\o.data=.dict es ep/\es.toList=xs.map (entryOfKey (tupleKind (aS P w)))/\(xs.map (·.1)).Nodup
 | .set S n=>h.SetOf (intKind P w) a S n
 | .ins C dx fs=>H dx=some (.own a)/\fs.length<=1000/\dx≠a/\h.get? a=some (W.instObj C dx) /\
   ∃ mA,h.Ns1 dx mA/\(∀ f,RelO (fs.lookup f) (mA f))/\PySem.Within mA (fs.map (·.1))
 | .own _=>∃ o,h.get? a=some o
 | .xd fs=>∃ mA,h.Ns1 a mA/\∀ f,RelO (fs.lookup f) (mA f)
 | .rng lo hi=>∃ t u v,h.get? a=some {cls:=.type "range",data:=.fields #[.int lo t,.int hi u,.int 1 v]}
 | .frz o u=>h.get? a=some o/\ObjOk H h a u
 | .tbl ps=>h.get? a=some {cls:=.none,data:=.fields ps}
 | .met f x=>h.get? a=some (W.methodObj (.ref f) (.ref x))
 | .ext φ=>φ h/\(∃ o,h.get? a=some o)/\∀ h1 h2:Heap,φ h1->(∀ o,h1.get? a=some o->h2.get? a=some o)->φ h2
def HOk (H:Hp)(h:Heap):Prop:=∀ a o,H a=some o->ObjOk P w H h a o
end
section
variable {P:Program}{w:World}{H H':Hp}{h h':Heap}{a:Addr}{o:HO}
theorem ObjOk.lt (x:ObjOk P w H h a o):a < h.objs.size:=by
 cases o with
 | lst xs=>obtain⟨_,_,_,_,e⟩:=x;exact Heap.lt_size e
 | tup xs=>obtain⟨_,_,_,p⟩:=x;exact p.lt
 | dK kvs=>obtain⟨_,_,_,_,o,_,_,e,_⟩:=x;exact Heap.lt_size e
 | dT kvs=>obtain⟨_,_,_,_,o,_,_,e,_⟩:=x;exact Heap.lt_size e
 | set S n=>obtain⟨o,_,_,_,e,_⟩:=x;exact Heap.lt_size e
 | ins C dx fs=>obtain⟨_,_,_,e,_⟩:=x;exact Heap.lt_size e
 | own y=>obtain⟨_,e⟩:=x;exact Heap.lt_size e
 | xd fs=>obtain⟨_,⟨_,_,_,e,_⟩,_⟩:=x;exact Heap.lt_size e
 | rng lo hi=>obtain⟨_,_,_,e⟩:=x;exact Heap.lt_size e
 | frz ob u=>obtain⟨e,_⟩:=x;exact Heap.lt_size e
 | tbl ps=>exact Heap.lt_size (show h.get? a=some _ from x)
 | met f y=>exact Heap.lt_size (show h.get? a=some _ from x)
 | ext φ=>obtain⟨_,⟨_,e⟩,_⟩:=x;exact Heap.lt_size e
theorem Paired.mapP {α β:Type}{F G:α->β->Prop}:∀ {l₁:List α}{l₂:List β},Paired F l₁ l₂->(∀ a b,F a b->G a b)->Paired G l₁ l₂
 | _,_,.nil,_=>.nil
 | _,_,.cons r t,f=>.cons (f _ _ r) (Paired.mapP t f)
theorem ObjOk.stay (x:ObjOk P w H h a o)(k:∀ b u,(b=a\/H b=some (.own a))->h.get? b=some u->h'.get? b=some u)
  (ho:∀ b,H b=some (.own a)->H' b=some (.own a))(ht:∀ b xs,H b=some (.tup xs)->H' b=some (.tup xs)):ObjOk P w H' h' a o:=by
 induction o with
 | lst xs=>obtain⟨z,its,n,r,e⟩:=x;exact⟨z,its,n,r,k _ _ (.inl rfl) e⟩
 | tup xs=>obtain⟨z,its,r,ob,e,c⟩:=x;exact⟨z,its,r,ob,k _ _ (.inl rfl) e,c⟩
 | dK kvs=>obtain⟨z,y,vs,r,ob,es,ep,e,c⟩:=x;exact⟨z,y,vs,r,ob,es,ep,k _ _ (.inl rfl) e,c⟩
 | dT kvs =>
  obtain⟨z,y,xs,r,ob,es,ep,e,c⟩:=x;exact⟨z,y,xs,Paired.mapP r fun p q z=>⟨z.1,ht _ _ z.2.1,z.2.2⟩,ob,es,ep,k _ _ (.inl rfl) e,c⟩
 | set S n=>obtain⟨ob,es,ep,t,e,c⟩:=x;exact⟨ob,es,ep,t,k _ _ (.inl rfl) e,c⟩
 | ins C dx fs =>
  obtain⟨d,z,ne,e,mA,⟨od,es,ep,e2,c⟩,r⟩:=x;exact⟨ho _ d,z,ne,k _ _ (.inl rfl) e,mA,⟨od,es,ep,k _ _ (.inr d) e2,c⟩,r⟩
 | own y=>obtain⟨ob,e⟩:=x;exact⟨ob,k _ _ (.inl rfl) e⟩
 | xd fs=>obtain⟨mA,⟨od,es,ep,e,c⟩,r⟩:=x;exact⟨mA,⟨od,es,ep,k _ _ (.inl rfl) e,c⟩,r⟩
 | rng lo hi=>obtain⟨t,u,v,e⟩:=x;exact⟨t,u,v,k _ _ (.inl rfl) e⟩
 | frz ob u ih=>obtain⟨e,q⟩:=x;exact⟨k _ _ (.inl rfl) e,ih q⟩
 | tbl ps =>
  have e:h.get? a=some {cls:=.none,data:=.fields ps}:=x
  show h'.get? a=some {cls:=.none,data:=.fields ps}
  exact k a _ (.inl rfl) e
 | met f y =>
  have e:h.get? a=some (W.methodObj (.ref f) (.ref y)):=x
  show h'.get? a=some (W.methodObj (.ref f) (.ref y))
  exact k a _ (.inl rfl) e
 | ext φ=>obtain⟨p,⟨o,e⟩,st⟩:=x;exact⟨st _ _ p fun o q=>k _ _ (.inl rfl) q,⟨o,k _ _ (.inl rfl) e⟩,st⟩
theorem HOk.lt (x:HOk P w H h)(e:H a=some o):a < h.objs.size:=(x a o e).lt
theorem HOk.fresh (x:HOk P w H h)(e:h.objs.size<=a):H a=none:=by
 cases q:H a with
 | none=>rfl
 | some u=>exact absurd (Nat.lt_of_lt_of_le (x.lt q) e) (Nat.lt_irrefl _)
theorem HOk.kept (x:HOk P w H h)(k:∀ b u,h.get? b=some u->h'.get? b=some u):HOk P w H h':=fun a o e =>
 (x a o e).stay (fun b u _ q=>k b u q) (fun _ q=>q) fun _ _ q=>q
theorem HOk.laid (x:HOk P w H h)(k:∀ b u,h.get? b=some u->h'.get? b=some u)(hp:h.objs.size<=a)(new:ObjOk P w (upd H a o) h' a o):HOk P w (upd H a o) h':=fun b u e=>by
 have hn:=x.fresh hp;by_cases hb:b=a
 ·subst hb;rw [uS] at e;cases e;exact new
 ·rw [uN hb] at e;exact(x b u e).stay (fun c v _ q=>k c v q) (fun c q=>by rw [uN (nN q hn)];exact q) fun c xs q=>by rw [uN (nN q hn)];exact q
end
def Rd (H:Hp)(a:Addr)(u:HO):Prop:=H a=some u\/∃ o,H a=some (.frz o u)
theorem Rd.ok {P:Program}{w:World}{H:Hp}{h:Heap}{a:Addr}{u:HO}(r:Rd H a u)(x:HOk P w H h):ObjOk P w H h a u:=by
 rcases r with r | ⟨o,r⟩
 ·exact x a u r
 ·obtain⟨_,q⟩:=x a _ r;exact q
def Mut:Option HO->Prop
 | some (.lst _)=>True
 | some (.dK _)=>True
 | some (.dT _)=>True
 | some (.set _ _)=>True
 | some (.ins _ _ _)=>True
 | some (.ext _)=>True
 | _=>False
section
variable {P:Program}{w:World}{H:Hp}{h h':Heap}{x e:Addr}{o':HO}
theorem HOk.write (ok:HOk P w H h)(mu:Mut (H x))(he:e=x\/H e=some (.own x))(k:∀ b u,b≠e->h.get? b=some u->h'.get? b=some u)(heo:∃ u,h'.get? e=some u)
  (new:ObjOk P w (upd H x o') h' x o'):HOk P w (upd H x o') h':=fun b u q=>by
 have nown:∀ c y,H c=some (.own y)->c≠x:=fun c y r z=>by subst z;rw [r] at mu;exact mu
 have ntup:∀ c xs,H c=some (.tup xs)->c≠x:=fun c xs r z=>by subst z;rw [r] at mu;exact mu
 by_cases hb:b=x
 ·subst hb;rw [uS] at q;cases q;exact new
 ·rw [uN hb] at q;by_cases hbe:b=e
  ·have q':H b=some (.own x):=by
    rcases he with z | z
    ·exact absurd (hbe.trans z) hb
    ·rw [hbe];exact z
   rw [q] at q';cases q';obtain⟨v,hv⟩:=heo;exact⟨v,by rw [hbe];exact hv⟩
  ·refine(ok b u q).stay (fun c v hc r=>k c v ?_ r) (fun c r=>by rw [uN (nown c b r)];exact r) fun c xs r=>by rw [uN (ntup c xs r)];exact r
   rcases hc with rfl | hc
   ·exact hbe
   ·rintro rfl
    rcases he with z | z
    ·exact nown c b hc z
    ·rw [hc] at z;cases z;exact hb rfl
end
structure Un (fs ex:List Addr)(H H':Hp)(h h':Heap):Prop where
 keep:∀ b o,h.get? b=some o->H b=none->b ∉ fs->b ∉ ex->h'.get? b=some o
 slot:∀ b o,h.get? b=some o->H b=none->b∈fs->b ∉ ex->∃ sl,h'.get? b=some {o with slots:=sl}
 free:∀ b o,h.get? b=some o->H b=none->b ∉ ex->H' b=none
 there:∀ b o,h.get? b=some o->b ∉ ex->∃ o',h'.get? b=some o'
 tups:∀ b xs,H b=some (.tup xs)->H' b=some (.tup xs)
 frzs:∀ b o u,H b=some (.frz o u)->H' b=some (.frz o u)
 tbls:∀ b ps,H b=some (.tbl ps)->∃ more,H' b=some (.tbl (ps++more))
section
variable {fs fs' ex ex':List Addr}{H H1 H2:Hp}{h h1 h2 h':Heap}{a x e:Addr}{o:HO}
theorem Un.any (u:Un fs ex H H1 h h1){b:Addr}{ob:Obj}(q:h.get? b=some ob)(n:H b=none)(hx:b ∉ ex):∃ sl,h1.get? b=some {ob with slots:=sl}:=by
 by_cases hb:b∈fs
 ·exact u.slot b ob q n hb hx
 ·exact⟨ob.slots,u.keep b ob q n hb hx⟩
theorem Un.kept (k:∀ b u,h.get? b=some u->h'.get? b=some u):Un fs ex H H h h' :=
 ⟨fun b ob q _ _ _=>k b ob q,fun b ob q _ _ _=>⟨ob.slots,k b ob q⟩,fun _ _ _ n _=>n,fun b ob q _=>⟨ob,k b ob q⟩,fun _ _ q=>q,fun _ _ _ q=>q,fun _ ps q=>⟨#[],by rw [q];simp⟩⟩
theorem Un.refl:Un fs ex H H h h:=Un.kept fun _ _ q=>q
theorem Un.laid (k:∀ b u,h.get? b=some u->h'.get? b=some u)(hp:h.objs.size<=a)(hn:H a=none):Un fs ex H (upd H a o) h h' where
 keep:=fun b u q _ _ _=>k b u q
 slot:=fun b u q _ _ _=>⟨u.slots,k b u q⟩
 free:=fun b u q n _=>by rw [uN (Nat.ne_of_lt (Nat.lt_of_lt_of_le (Heap.lt_size q) hp))];exact n
 there:=fun b u q _=>⟨u,k b u q⟩
 tups:=fun b xs q=>by rw [uN (nN q hn)];exact q
 frzs:=fun b u xs q=>by rw [uN (nN q hn)];exact q
 tbls:=fun b ps q=>⟨#[],by rw [uN (nN q hn),q];simp⟩
theorem Un.write (mu:Mut (H x))(he:e=x\/H e=some (.own x))(k:∀ b u,b≠e->h.get? b=some u->h'.get? b=some u)(heo:∃ u,h'.get? e=some u):Un fs ex H (upd H x o) h h':=by
 have hx:∀ b,H b=none->b≠x:=fun b n z=>by subst z;rw [n] at mu;exact mu
 have hb:∀ b,H b=none->b≠e:=fun b n z=>by
  subst z;rcases he with r | r
  ·exact hx b n r
  ·rw [n] at r;cases r
 have hm:∀ b u,H b=some u->¬ Mut (some u)->b≠x:=fun b u q nm z=>by subst z;rw [q] at mu;exact nm mu
 refine⟨fun b u q n _ _=>k b u (hb b n) q,fun b u q n _ _=>⟨u.slots,k b u (hb b n) q⟩,fun b u q n _=>by rw [uN (hx b n)];exact n,fun b u q _=>?_,
  fun b xs q=>by rw [uN (hm b _ q fun z=>z)];exact q,fun b u xs q=>by rw [uN (hm b _ q fun z=>z)];exact q,fun b ps q=>⟨#[],by rw [uN (hm b _ q fun z=>z),q];simp⟩⟩
 by_cases hbe:b=e
 ·subst hbe;exact heo
 ·exact⟨u,k b u hbe q⟩
end
def trk (h:Heap)(H:Hp):List Addr:=(List.range h.objs.size).filter fun a=>(H a).isSome
def hidT (h:Heap)(H:Hp):Heap:=W.hideAll h (trk h H)
theorem hidT_size (h:Heap)(H:Hp):(hidT h H).objs.size=h.objs.size:=W.hideAll_size _ _
theorem hidT_get {h:Heap}{H:Hp}{b:Addr}{o:Obj}(e:h.get? b=some o)(n:H b=none):(hidT h H).get? b=some o :=
 W.hideAll_get _ e fun hm=>by
  have q:(H b).isSome=true:=(List.mem_filter.mp hm).2
  rw [n] at q;simp at q
theorem of_hidT {h:Heap}{H:Hp}{b:Addr}{o:Obj}(e:(hidT h H).get? b=some o):h.get? b=some o/\H b=none:=by
 have e':h.get? b=some o:=W.of_hideAll (trk h H) e
 refine⟨e',?_⟩
 cases q:H b with
 | none=>rfl
 | some x =>
  have hm:b∈trk h H:=List.mem_filter.mpr ⟨List.mem_range.mpr (Heap.lt_size e'),by simp [q]⟩
  have z:(hidT h H).get? b=none:=W.hideAll_none (trk h H) hm
  rw [z] at e;cases e
end L2
namespace L2
open PySem PySem.Spec PyProof.Rows
structure Mod (K:W.Frag)(mg:Str->Option Value)(base:Heap):Prop where
 kin:K.In base
 glob:base.Ns mainGlobals mg
 blt:∃ mb,base.Ns builtinsNs mb/\∀ x:Str,x ≠ "__name__" -> mb x=bootBuiltins x
 nolimit:base.NoLimit
structure Cx where
 prog:Program
 w:World
 K:W.Frag
 mg:Str->Option Value
 base:Heap
 A:Around
 N:List Str
 s_0:Shared
 H_0:Hp
 env:Env
 outer:List Env
 stack:List Env
 ex:List Addr
 fn:Str->Bool
 calm:Bool
 pn:List (Addr×Obj)
 xe:Value->Shared->Prop
def frs (l:List Env):List Addr:=l.filterMap (·.frame)
abbrev Cx.fs (X:Cx):List Addr:=frs X.outer
def Vis (sc:Scope)(x:Str):Prop:=sc.names.lookup x=some .local\/sc.names.lookup x=some .cell\/sc.names.lookup x=some .free
def Loc (sc:Scope)(x:Str):Prop:=sc.names.lookup x=some .local\/sc.names.lookup x=some .cell
def Look (env:Env)(h:Heap)(m:Str->Option Value)(x:Str)(u:Value):Prop :=
 (env.kindOf x=some .local/\m x=some u)\/((env.kindOf x=some .cell\/env.kindOf x=some .free)/\∃ c,env.cells.lookup x=some c/\h.IsCell c (some u))
structure Cx.Ok (X:Cx):Prop where
 mod:Mod X.K X.mg X.base
 kind:X.env.scope.kind=.function
 glob:X.env.globals=mainGlobals
 blt:X.env.builtins=builtinsNs
 above:X.s_0.heap.objs.size<=X.env.locals
 inj:∀ x y c,X.env.cells.lookup x=some c->X.env.cells.lookup y=some c->x=y
 has:∀ x,(X.env.kindOf x=some .cell\/X.env.kindOf x=some .free)->∃ c,X.env.cells.lookup x=some c
 cab:∀ x c,X.fn x=true->X.env.cells.lookup x=some c->X.s_0.heap.objs.size<=c
 hd:X.calm=true->X.A.handled=none
 frames:X.A.frames=some X.stack
 stk:X.stack=X.outer\/(X.stack=X.env::X.outer/\X.env.frame=some X.env.locals)
 exf:∀ b∈X.ex,b≠X.env.locals/\∀ x c,X.env.cells.lookup x=some c->c≠b
 bs:∀ b o,X.base.get? b=some o->X.s_0.heap.get? b=some o/\X.H_0 b=none
 bsz:X.base.objs.size<=X.s_0.heap.objs.size
 noex:∀ b o,X.base.get? b=some o->b ∉ X.ex
 exfs:∀ b∈X.ex,b ∉ X.fs
 funs:X.s_0.heap.FunFrames X.base X.outer
 frf:∀ b∈X.fs,X.H_0 b=none
structure Inv (X:Cx)(pins:List (Addr×Obj))(σ:List (Option V))(H:Hp)(s:Shared):Prop where
 ok:X.Ok
 os:s.os=X.s_0.os
 bare:AllBare s.gens
 base:Un X.fs X.ex X.H_0 H X.s_0.heap s.heap
 loc:∃ m,s.heap.Ns X.env.locals m/\∀ (i:Nat)(x:Str)(v:V),X.N[i]?=some x->σ[i]?=some (some v)->Vis X.env.scope x->∃ u,RelV v u/\Look X.env s.heap m x u
 cell:∀ x c,X.env.cells.lookup x=some c->∃ v,s.heap.IsCell c v
 free:H X.env.locals=none
 freeC:∀ x c,X.env.cells.lookup x=some c->H c=none
 pin:∀ p∈X.pn++pins,s.heap.get? p.1=some p.2/\H p.1=none/\p.1≠X.env.locals/\p.1 ∉ X.fs/\∀ v,p.2.data≠.cell v
 hok:HOk X.prog X.w H s.heap
 len:σ.length=X.N.length
section
variable {X:Cx}{pins:List (Addr×Obj)}{σ:List (Option V)}{H H':Hp}{s:Shared}{h':Heap}
theorem Cx.Ok.nofr (ok:X.Ok){b:Addr}{o:Obj}(e:X.base.get? b=some o):b ∉ X.fs:=fun hb=>by
 have:=(ok.funs.mem hb).1
 rw [e] at this;cases this
theorem Inv.bs (I:Inv X pins σ H s):∀ b o,X.base.get? b=some o->s.heap.get? b=some o/\H b=none:=fun b o e =>
 ⟨I.base.keep b o (I.ok.bs b o e).1 (I.ok.bs b o e).2 (I.ok.nofr e) (I.ok.noex b o e),I.base.free b o (I.ok.bs b o e).1 (I.ok.bs b o e).2 (I.ok.noex b o e)⟩
theorem Inv.bk (I:Inv X pins σ H s):∀ b o,X.base.get? b=some o->s.heap.get? b=some o:=fun b o e=>(I.bs b o e).1
theorem Inv.mod (I:Inv X pins σ H s):Mod X.K X.mg X.base:=I.ok.mod
theorem Inv.kIn (I:Inv X pins σ H s):X.K.In s.heap:=I.ok.mod.kin.keeps I.bk
theorem Inv.fr (I:Inv X pins σ H s):∃ m,Fr X.base X.env.locals s.heap m :=
 let ⟨m,hn,_⟩:=I.loc
 ⟨m,hn,I.bk,Nat.le_trans I.ok.bsz I.ok.above⟩
theorem Inv.lt (I:Inv X pins σ H s):X.env.locals < s.heap.objs.size:=let ⟨_,hn,_⟩:=I.loc;hn.lt
theorem Inv.sz (I:Inv X pins σ H s):X.s_0.heap.objs.size<=s.heap.objs.size:=Nat.le_trans I.ok.above (Nat.le_of_lt I.lt)
theorem Inv.nofs (I:Inv X pins σ H s){a:Addr}(h:s.heap.objs.size<=a):a ∉ X.fs:=fun hb=>by
 obtain⟨_,o,ho,_⟩:=I.ok.funs.mem hb;exact absurd (Nat.lt_of_lt_of_le (Heap.lt_size ho) (Nat.le_trans I.sz h)) (Nat.lt_irrefl _)
theorem Inv.cne (I:Inv X pins σ H s):∀ x c,X.env.cells.lookup x=some c->c≠X.env.locals:=fun x c e z=>by
 obtain⟨v,o,ho,hd⟩:=I.cell x c e;obtain⟨m,⟨o',es,ep,ho',hd',_⟩,_⟩:=I.loc;rw [z,ho'] at ho;cases ho;rw [hd'] at hd;cases hd
theorem Inv.funs (I:Inv X pins σ H s):s.heap.FunFrames X.base X.outer:=by
 have all:∀ (l:List Env),(∀ b∈frs l,b∈X.fs)->X.s_0.heap.FunFrames X.base l->s.heap.FunFrames X.base l:=by
  intro l;induction l with
  | nil=>intro _ _;trivial
  | cons env r ih =>
   intro hs hl;obtain⟨hk,⟨L,o,hf,hn,ho,hd⟩,hr⟩:=hl;have hL:L∈X.fs:=hs L (by unfold frs;rw [List.filterMap_cons,hf];exact List.mem_cons_self)
   obtain⟨sl,e⟩:=I.base.slot L o ho (I.ok.frf L hL) hL fun z=>I.ok.exfs L z hL
   exact⟨hk,⟨L,_,hf,hn,e,hd⟩,ih (fun b hb=>hs b (by unfold frs;rw [List.filterMap_cons,hf];exact List.mem_cons_of_mem _ hb)) hr⟩
 exact all X.outer (fun _ hb=>hb) I.ok.funs
theorem Inv.stack (I:Inv X pins σ H s):s.heap.FunFrames X.base X.stack:=by
 rcases I.ok.stk with e | ⟨e,hf⟩
 ·rw [e];exact I.funs
 ·rw [e];obtain⟨m,hn,_⟩:=I.loc;refine .cons (by rw [I.ok.kind];decide) hf hn ?_ I.funs
  exact Heap.get?_none_of_le (Nat.le_trans I.ok.bsz I.ok.above)
theorem Inv.stkSub (I:Inv X pins σ H s):∀ b∈frs X.stack,b∈X.env.locals::X.fs:=fun b hb=>by
 rcases I.ok.stk with e | ⟨e,hf⟩
 ·rw [e] at hb;exact List.mem_cons_of_mem _ hb
 ·rw [e] at hb;unfold frs at hb;rw [List.filterMap_cons,hf] at hb;exact hb
theorem Inv.stkFree (I:Inv X pins σ H s):∀ b∈frs X.stack,H b=none:=fun b hb=>by
 rcases List.mem_cons.mp (I.stkSub b hb) with e | hb
 ·rw [e];exact I.free
 ·obtain⟨_,o,ho,_⟩:=I.ok.funs.mem hb;exact I.base.free b o ho (I.ok.frf b hb) fun z=>I.ok.exfs b z hb
theorem Inv.step {g':Array GenState}{t':Nat}{d':Drawn}{ch:List Addr}(I:Inv X pins σ H s)
  (hch:∀ b∈ch,(b∈X.ex\/X.s_0.heap.objs.size<=b)/\b≠X.env.locals/\(∀ x c,X.env.cells.lookup x=some c->c≠b)/\∀ p∈X.pn++pins,p.1≠b)
  (keep:∀ b o,b≠X.env.locals->b ∉ X.fs->b ∉ ch->s.heap.get? b=some o->H b=none->h'.get? b=some o)
  (slot:∀ b o,b≠X.env.locals->b∈X.fs->b ∉ ch->s.heap.get? b=some o->H b=none->∃ sl,h'.get? b=some {o with slots:=sl})(free:∀ b o,b ∉ ch->s.heap.get? b=some o->H b=none->H' b=none)
  (there:∀ b o,b ∉ ch->s.heap.get? b=some o->∃ o',h'.get? b=some o')
  (tups:∀ b xs,H b=some (.tup xs)->H' b=some (.tup xs))(frzs:∀ b o u,H b=some (.frz o u)->H' b=some (.frz o u))(tbls:∀ b ps,H b=some (.tbl ps)->∃ more,H' b=some (.tbl (ps++more)))
  (ns:∀ m,s.heap.Ns X.env.locals m->h'.Ns X.env.locals m)(hok:HOk X.prog X.w H' h')(hg:AllBare g') :
  Inv X pins σ H' {s with heap:=h',gens:=g',drawn:=d',toks:=t'}:=by
 have neL:∀ b o,X.s_0.heap.get? b=some o->b≠X.env.locals:=fun b o e=>Nat.ne_of_lt (Nat.lt_of_lt_of_le (Heap.lt_size e) I.ok.above)
 have neC:∀ b o,X.s_0.heap.get? b=some o->b ∉ X.ex->b ∉ ch:=fun b o e hx hb=>by
  rcases (hch b hb).1 with z | z
  ·exact hx z
  ·exact absurd (Nat.lt_of_lt_of_le (Heap.lt_size e) z) (Nat.lt_irrefl _)
 have cellK:∀ x c,X.env.cells.lookup x=some c->∀ v,s.heap.IsCell c v->h'.IsCell c v:=fun x c e v ⟨o,ho,hd⟩=>by
  have nch:c ∉ ch:=fun z=>(hch c z).2.2.1 x c e rfl
  by_cases hc:c∈X.fs
  ·obtain⟨sl,q⟩:=slot c o (I.cne x c e) hc nch ho (I.freeC x c e);exact⟨_,q,hd⟩
  ·exact⟨o,keep c o (I.cne x c e) hc nch ho (I.freeC x c e),hd⟩
 refine⟨I.ok,I.os,hg,⟨fun b o e n hb hx=>?_,fun b o e n hb hx=>?_,fun b o e n hx=>?_,fun b o e hx=>?_,fun b xs e=>tups b xs (I.base.tups b xs e),fun b o xs e=>frzs b o xs (I.base.frzs b o xs e),fun b ps e=>?_⟩,?_,fun x c e=>?_,?_,fun x c e=>?_,fun p hp=>?_,hok,I.len⟩
 ·exact keep b o (neL b o e) hb (neC b o e hx) (I.base.keep b o e n hb hx) (I.base.free b o e n hx)
 ·obtain⟨sl,e1⟩:=I.base.slot b o e n hb hx;obtain⟨sl',e2⟩:=slot b _ (neL b o e) hb (neC b o e hx) e1 (I.base.free b o e n hx);exact⟨sl',e2⟩
 ·obtain⟨o',e1⟩:=I.base.there b o e hx;exact free b o' (neC b o e hx) e1 (I.base.free b o e n hx)
 ·obtain⟨o',e1⟩:=I.base.there b o e hx;exact there b o' (neC b o e hx) e1
 ·obtain⟨m1,e1⟩:=I.base.tbls b ps e;obtain⟨m2,e2⟩:=tbls b _ e1;exact⟨m1++m2,by rw [e2,Array.append_assoc]⟩
 ·obtain⟨m,hn,hl⟩:=I.loc;refine⟨m,ns m hn,fun i x v e1 e2 e3=>?_⟩
  obtain⟨u,r,l⟩:=hl i x v e1 e2 e3;refine⟨u,r,?_⟩
  rcases l with l | ⟨k,c,e,z⟩
  ·exact .inl l
  ·exact .inr ⟨k,c,e,cellK x c e _ z⟩
 ·obtain⟨v,z⟩:=I.cell x c e;exact⟨v,cellK x c e v z⟩
 ·obtain⟨m,⟨o,_,_,ho,_⟩,_⟩:=I.loc;exact free _ o (fun z=>(hch _ z).2.1 rfl) ho I.free
 ·obtain⟨v,o,ho,hd⟩:=I.cell x c e;exact free c o (fun z=>(hch c z).2.2.1 x c e rfl) ho (I.freeC x c e)
 ·obtain⟨e,n,ne,nf,d⟩:=I.pin p hp;have nch:p.1 ∉ ch:=fun z=>(hch p.1 z).2.2.2 p hp rfl
  exact⟨keep p.1 p.2 ne nf nch e n,free p.1 p.2 nch e n,ne,nf,d⟩
theorem Inv.un {t':Nat}(I:Inv X pins σ H s)(u:Un X.fs [] H H' s.heap h')(hok:HOk X.prog X.w H' h'):Inv X pins σ H' {s with heap:=h',toks:=t'}:=by
 obtain⟨m,⟨o,es,ep,ho,r⟩,_⟩:=id I.loc;obtain⟨sl,hL⟩:=u.any ho I.free (by simp)
 exact I.step (g':=s.gens) (d':=s.drawn) (ch:=[]) (fun _ z=>nomatch z) (fun b o _ hb _ e n=>u.keep b o e n hb (by simp)) (fun b o _ hb _ e n=>u.slot b o e n hb (by simp)) (fun b o _ e n=>u.free b o e n (by simp)) (fun b o _ e=>u.there b o e (by simp)) u.tups u.frzs u.tbls (fun m' hm=>by
  obtain⟨o',es',ep',ho',r'⟩:=hm;rw [ho] at ho';cases ho'
  exact⟨_,es',ep',hL,r'⟩) hok I.bare
theorem Inv.call {g':Array GenState}{t':Nat}{d':Drawn}{ch:List Addr}(I:Inv X pins σ H s)(u:Un (frs X.stack) ch H H' s.heap h')(hok:HOk X.prog X.w H' h')(hg:AllBare g')
  (hch:∀ b∈ch,(b∈X.ex\/X.s_0.heap.objs.size<=b)/\b≠X.env.locals/\(∀ x c,X.env.cells.lookup x=some c->c≠b)/\∀ p∈X.pn++pins,p.1≠b) :
  Inv X pins σ H' {s with heap:=h',gens:=g',drawn:=d',toks:=t'}:=by
 obtain⟨m,⟨o,es,ep,ho,r⟩,_⟩:=id I.loc;obtain⟨sl,hL⟩:=u.any ho I.free fun z=>(hch _ z).2.1 rfl
 exact I.step (ch:=ch) hch (fun b o hL hb hc e n=>u.keep b o e n (fun z=>(List.mem_cons.mp (I.stkSub b z)).elim hL hb) hc) (fun b o _ _ hc e n=>u.any e n hc) (fun b o hc e n=>u.free b o e n hc) (fun b o hc e=>u.there b o e hc) u.tups u.frzs u.tbls (fun m' hm=>by
  obtain⟨o',es',ep',ho',r'⟩:=hm;rw [ho] at ho';cases ho'
  exact⟨_,es',ep',hL,r'⟩) hok hg
theorem Inv.turned {t':Nat}{it:Addr}(I:Inv X pins σ H s)(k:∀ b o,b≠it->s.heap.get? b=some o->h'.get? b=some o)(hn:H it=none)(hL:it≠X.env.locals)
  (h1:it∈X.ex\/X.s_0.heap.objs.size<=it)(h2:∀ x c,X.env.cells.lookup x=some c->c≠it)(h3:∀ p∈X.pn++pins,p.1≠it):Inv X pins σ H {s with heap:=h',toks:=t'}:=by
 have nit:∀ b u,H b=some u->b≠it:=fun b u e z=>by rw [z,hn] at e;cases e
 refine I.step (g':=s.gens) (d':=s.drawn) (ch:=[it]) (fun b hb=>?_) (fun b o _ _ hc e _=>k b o (fun z=>hc (by simp [z])) e) (fun b o _ _ hc e _=>⟨o.slots,k b o (fun z=>hc (by simp [z])) e⟩) (fun _ _ _ _ n=>n)
  (fun b o hc e=>⟨o,k b o (fun z=>hc (by simp [z])) e⟩) (fun _ _ e=>e) (fun _ _ _ e=>e) (fun b ps e=>⟨#[],by rw [e];simp⟩) (fun m hm=>?_) (fun b u e=>?_) I.bare
 ·have e:b=it:=by simpa using hb
  subst e;exact⟨h1,hL,h2,h3⟩
 ·obtain⟨o,es,ep,ho,r⟩:=hm;exact⟨o,es,ep,k _ o (Ne.symm hL) ho,r⟩
 ·refine(I.hok b u e).stay (fun c v hc q=>k c v ?_ q) (fun _ q=>q) fun _ _ q=>q
  rcases hc with z | z
  ·rw [z];exact nit b u e
  ·exact nit c _ z
theorem Inv.tok (I:Inv X pins σ H s)(t:Nat):Inv X pins σ H {s with toks:=t}:=I.un (h':=s.heap) (t':=t) Un.refl I.hok
theorem Inv.kept {t':Nat}(I:Inv X pins σ H s)(k:∀ b u,s.heap.get? b=some u->h'.get? b=some u):Inv X pins σ H {s with heap:=h',toks:=t'}:=I.un (Un.kept k) (I.hok.kept k)
theorem Inv.laid {a:Addr}{o:HO}{t':Nat}(I:Inv X pins σ H s)(k:∀ b u,s.heap.get? b=some u->h'.get? b=some u)(hp:s.heap.objs.size<=a)(new:ObjOk X.prog X.w (upd H a o) h' a o) :
  Inv X pins σ (upd H a o) {s with heap:=h',toks:=t'}:=I.un (Un.laid k hp (I.hok.fresh hp)) (I.hok.laid k hp new)
theorem Inv.write {x e:Addr}{o:HO}{t':Nat}(I:Inv X pins σ H s)(mu:Mut (H x))(he:e=x\/H e=some (.own x))(k:∀ b u,b≠e->s.heap.get? b=some u->h'.get? b=some u)(heo:∃ u,h'.get? e=some u)
  (new:ObjOk X.prog X.w (upd H x o) h' x o):Inv X pins σ (upd H x o) {s with heap:=h',toks:=t'}:=I.un (Un.write mu he k heo) (I.hok.write mu he k heo new)
theorem Inv.weak {σ':List (Option V)}(I:Inv X pins σ H s)(hl:σ'.length=σ.length)(w:∀ (i:Nat) v,σ'[i]?=some (some v)->σ[i]?=some (some v)):Inv X pins σ' H s :=
 ⟨I.ok,I.os,I.bare,I.base,let ⟨m,hn,hl'⟩:=I.loc;⟨m,hn,fun i x v e1 e2 e3=>hl' i x v e1 (w i v e2) e3⟩,I.cell,I.free,I.freeC,I.pin,I.hok,hl.trans I.len⟩
theorem Inv.pins_of {pins':List (Addr×Obj)}(I:Inv X pins σ H s)(h:∀ p∈pins',s.heap.get? p.1=some p.2/\H p.1=none/\p.1≠X.env.locals/\p.1 ∉ X.fs/\∀ v,p.2.data≠.cell v):Inv X pins' σ H s :=
 ⟨I.ok,I.os,I.bare,I.base,I.loc,I.cell,I.free,I.freeC,fun p hp=>(List.mem_append.mp hp).elim (fun z=>I.pin p (List.mem_append_left _ z)) (h p),I.hok,I.len⟩
theorem nodup_ix {N:List Str}(hN:N.Nodup){i j:Nat}{x:Str}(a:N[i]?=some x)(b:N[j]?=some x):i=j:=by
 obtain⟨h1,e1⟩:=List.getElem?_eq_some_iff.mp a;obtain⟨h2,e2⟩:=List.getElem?_eq_some_iff.mp b;exact(List.getElem_inj hN).mp (e1.trans e2.symm)
theorem store_ok2 {M:Model}{A:Around}{E:Value->Shared->Prop}{i:Nat}{x:Str}{v:V}{u:Value}{Q:Unit->Shared->Prop}(I:Inv X pins σ H s)(hN:X.N.Nodup)(hi:X.N[i]?=some x)(hx:Loc X.env.scope x)(r:RelV v u)
  (h:∀ s',Inv X pins (σ.set i (some v)) H s'->(∃ a,Heap.SameBut a s.heap s'.heap/\(a=X.env.locals\/X.env.cells.lookup x=some a))->Q () s')(hf:X.fn x=true\/X.env.scope.names.lookup x=some .local:=by first | exact .inl rfl | exact .inr rfl | assumption):wpAny M A (storeName X.env x u) Q E s:=by
 obtain⟨m,hn,hl⟩:=id I.loc;have hcls:(X.env.scope.kind==.class||(X.env.scope.kind==.module&&X.env.locals != X.env.globals))=false:=by rw [I.ok.kind];rfl
 have hiσ:i < σ.length:=by rw [I.len];exact(List.getElem?_eq_some_iff.mp hi).1
 have cne:=I.cne
 have tracked:∀ {a:Addr}{h':Heap},(∃ o,s.heap.get? a=some o/\H a=none)->Heap.SameBut a s.heap h'->HOk X.prog X.w H h':=fun {a h'} ha hs b ob e=>by
  obtain⟨_,_,hfree⟩:=ha;refine(I.hok b ob e).stay (fun c w' hc q=>(hs.2 c ?_).trans q) (fun _ q=>q) fun _ _ q=>q
  rintro rfl
  rcases hc with rfl | hc
  ·rw [hfree] at e;cases e
  ·rw [hfree] at hc;cases hc
 rcases hx with hk | hk
 ·refine wpAny_storeName_local hk hn (fun h' hn' hs=>?_) hcls
  obtain⟨oL,_,_,hoL,_⟩:=id hn;refine h _ ⟨I.ok,I.os,I.bare,⟨fun b o e n hb hx=>?_,fun b o e n hb hx=>?_,I.base.free,fun b o e hx=>?_,I.base.tups,I.base.frzs,I.base.tbls⟩,⟨_,hn',fun j y v' e1 e2 e3=>?_⟩,fun y c e=>?_,I.free,I.freeC,fun p hp=>?_,tracked ⟨oL,hoL,I.free⟩ hs,by simpa using I.len⟩ ⟨_,hs,.inl rfl⟩
  ·exact(hs.2 b (Nat.ne_of_lt (Nat.lt_of_lt_of_le (Heap.lt_size e) I.ok.above))).trans (I.base.keep b o e n hb hx)
  ·obtain⟨sl,e1⟩:=I.base.slot b o e n hb hx;exact⟨sl,(hs.2 b (Nat.ne_of_lt (Nat.lt_of_lt_of_le (Heap.lt_size e) I.ok.above))).trans e1⟩
  ·obtain⟨o',e1⟩:=I.base.there b o e hx;exact⟨o',(hs.2 b (Nat.ne_of_lt (Nat.lt_of_lt_of_le (Heap.lt_size e) I.ok.above))).trans e1⟩
  ·by_cases hj:j=i
   ·subst hj;rw [hi] at e1;cases e1;rw [List.getElem?_set_self hiσ] at e2;cases e2;exact⟨u,r,.inl ⟨hk,by simp⟩⟩
   ·rw [List.getElem?_set_ne (Ne.symm hj)] at e2;obtain⟨u',r',q⟩:=hl j y v' e1 e2 e3;refine⟨u',r',?_⟩
    rcases q with ⟨k,e⟩ | ⟨k,c,e,z⟩
    ·refine .inl ⟨k,?_⟩
     have:y≠x:=fun e=>hj (nodup_ix hN e1 (e ▸ hi))
     simp [this,e]
    ·exact .inr ⟨k,c,e,z.sameBut hs (cne y c e)⟩
  ·obtain⟨w',z⟩:=I.cell y c e;exact⟨w',z.sameBut hs (cne y c e)⟩
  ·obtain⟨e,n,ne,nf,d⟩:=I.pin p hp;exact⟨(hs.2 p.1 ne).trans e,n,ne,nf,d⟩
 ·have hfn:X.fn x=true:=by
   rcases hf with z | z
   ·exact z
   ·rw [z] at hk;cases hk
  obtain⟨c,hc⟩:=I.ok.has x (.inl hk);obtain⟨w',z⟩:=I.cell x c hc;refine wpAny_storeName_cell I.ok.kind hk hc z (fun h' hc' hs=>?_)
  obtain⟨oc,hoc,hocd⟩:=id z;refine h {s with heap:=h'} ⟨I.ok,I.os,I.bare,⟨fun b o e n hb hx=>?_,fun b o e n hb hx=>?_,I.base.free,fun b o e hx=>?_,I.base.tups,I.base.frzs,I.base.tbls⟩,⟨m,hn.sameBut hs (Ne.symm (cne x c hc)),fun j y v' e1 e2 e3=>?_⟩,fun y c' e=>?_,I.free,I.freeC,fun p hp=>?_,tracked ⟨oc,hoc,I.freeC x c hc⟩ hs,by simpa using I.len⟩ ⟨c,hs,.inr hc⟩
  ·exact(hs.2 b (Nat.ne_of_lt (Nat.lt_of_lt_of_le (Heap.lt_size e) (I.ok.cab x c hfn hc)))).trans (I.base.keep b o e n hb hx)
  ·obtain⟨sl,e1⟩:=I.base.slot b o e n hb hx;exact⟨sl,(hs.2 b (Nat.ne_of_lt (Nat.lt_of_lt_of_le (Heap.lt_size e) (I.ok.cab x c hfn hc)))).trans e1⟩
  ·obtain⟨o',e1⟩:=I.base.there b o e hx;exact⟨o',(hs.2 b (Nat.ne_of_lt (Nat.lt_of_lt_of_le (Heap.lt_size e) (I.ok.cab x c hfn hc)))).trans e1⟩
  ·by_cases hj:j=i
   ·subst hj;rw [hi] at e1;cases e1;rw [List.getElem?_set_self hiσ] at e2;cases e2;exact⟨u,r,.inr ⟨.inl hk,c,hc,hc'⟩⟩
   ·rw [List.getElem?_set_ne (Ne.symm hj)] at e2;obtain⟨u',r',q⟩:=hl j y v' e1 e2 e3;refine⟨u',r',?_⟩
    rcases q with q | ⟨k,c',e,z'⟩
    ·exact .inl q
    ·refine .inr ⟨k,c',e,z'.sameBut hs ?_⟩
     rintro rfl
     exact hj (nodup_ix hN e1 (I.ok.inj _ _ _ e hc ▸ hi))
  ·by_cases hcc:c'=c
   ·subst hcc;exact⟨_,hc'⟩
   ·obtain⟨w2,z2⟩:=I.cell y c' e;exact⟨w2,z2.sameBut hs hcc⟩
  ·obtain⟨e,n,ne,nf,d⟩:=I.pin p hp;refine⟨(hs.2 p.1 ?_).trans e,n,ne,nf,d⟩
   intro q;rw [q,hoc] at e;have q':oc=p.2:=Option.some.inj e
   exact d w' (by rw [<-q'];exact hocd)
theorem store_ok {M:Model}{A:Around}{E:Value->Shared->Prop}{i:Nat}{x:Str}{v:V}{u:Value}{Q:Unit->Shared->Prop}(I:Inv X pins σ H s)(hN:X.N.Nodup)(hi:X.N[i]?=some x)(hx:Loc X.env.scope x)(r:RelV v u)
  (h:∀ s',Inv X pins (σ.set i (some v)) H s'->Q () s')(hf:X.fn x=true\/X.env.scope.names.lookup x=some .local:=by first | exact .inl rfl | exact .inr rfl | assumption):wpAny M A (storeName X.env x u) Q E s :=
 store_ok2 I hN hi hx r (fun s' I' _=>h s' I') hf
theorem Inv.call' {s':Shared}{ch:List Addr}(I:Inv X pins σ H s)(ho:s'.os=s.os)(u:Un (frs X.stack) ch H H' s.heap s'.heap)(hok:HOk X.prog X.w H' s'.heap)(hg:AllBare s'.gens)
  (hch:∀ b∈ch,(b∈X.ex\/X.s_0.heap.objs.size<=b)/\b≠X.env.locals/\(∀ x c,X.env.cells.lookup x=some c->c≠b)/\∀ p∈X.pn++pins,p.1≠b):Inv X pins σ H' s':=by
 obtain⟨h',g',d',t',o'⟩:=s';have e:o'=s.os:=ho
 subst e;exact I.call (g':=g') (t':=t') (d':=d') u hok hg hch
end
abbrev XK:=Value->Option Addr->Hp->Prop
abbrev St:=List (Option V)
abbrev VK:=V->Hp->Prop
abbrev TE:=St->Hp->VK->Prop
abbrev TT:=St->Hp->(Bool->Hp->Prop)->Prop
abbrev TA:=St->Hp->(List V->Hp->Prop)->Prop
structure Ends where
 nx:St->Hp->Prop
 rt:VK
 bk:St->Hp->Prop:=fun _ _=>False
 ct:St->Hp->Prop:=fun _ _=>False
abbrev TS:=Ends->St->Hp->Prop
def EP (X:Cx)(pins:List (Addr×Obj))(σ:St)(Q:VK)(u:Value)(s':Shared):Prop:=∃ v H',Inv X pins σ H' s'/\RelV v u/\Q v H'
def TP (X:Cx)(pins:List (Addr×Obj))(σ:St)(Q:Bool->Hp->Prop)(b:Bool)(s':Shared):Prop:=∃ H',Inv X pins σ H' s'/\Q b H'
def AP (X:Cx)(pins:List (Addr×Obj))(σ:St)(Q:List V->Hp->Prop)(us:List Value)(s':Shared):Prop:=∃ vs H',Inv X pins σ H' s'/\Vals vs us/\Q vs H'
def SP (X:Cx)(pins:List (Addr×Obj))(D:Ends)(f:Flow)(s':Shared):Prop :=
 match f with
 | .next=>∃ σ' H',Inv X pins σ' H' s'/\D.nx σ' H'
 | .brk=>∃ σ' H',Inv X pins σ' H' s'/\D.bk σ' H'
 | .cont=>∃ σ' H',Inv X pins σ' H' s'/\D.ct σ' H'
 | .ret u=>∃ v σ' H',Inv X pins σ' H' s'/\RelV v u/\D.rt v H'
def PE (X:Cx)(e:Expr)(t:TE):Prop :=
 ∀ (pins:List (Addr×Obj))(s:Shared)(σ:St)(H:Hp)(Q:VK),Inv X pins σ H s->t σ H Q->wpAny (model X.prog X.w) X.A (eval e X.env) (EP X pins σ Q) X.xe s
def PT (X:Cx)(e:Expr)(t:TT):Prop :=
 ∀ (pins:List (Addr×Obj))(s:Shared)(σ:St)(H:Hp)(Q:Bool->Hp->Prop),Inv X pins σ H s->t σ H Q->wpAny (model X.prog X.w) X.A (isTrue e X.env (eval e X.env)) (TP X pins σ Q) X.xe s
def PW (X:Cx)(e:Expr)(t:TT):Prop :=
 ∀ (whole:Sem Value)(pins:List (Addr×Obj))(s:Shared)(σ:St)(H:Hp)(Q:Bool->Hp->Prop),Inv X pins σ H s->t σ H Q->wpAny (model X.prog X.w) X.A (isTrue e X.env whole) (TP X pins σ Q) X.xe s
theorem PW.pt {X:Cx}{e:Expr}{t:TT}(h:PW X e t):PT X e t:=h _
def PA (X:Cx)(es:List Expr)(t:TA):Prop :=
 ∀ (pos:Pos)(pins:List (Addr×Obj))(s:Shared)(σ:St)(H:Hp)(Q:List V->Hp->Prop),Inv X pins σ H s->t σ H Q->wpAny (model X.prog X.w) X.A (spliced (backTo pos (starEach es X.env))) (AP X pins σ Q) X.xe s
def PS (X:Cx)(st:Stmt)(t:TS):Prop :=
 ∀ (pins:List (Addr×Obj))(s:Shared)(σ:St)(H:Hp)(D:Ends),Inv X pins σ H s->t D σ H->wpAny (model X.prog X.w) X.A (exec st X.env) (SP X pins D) X.xe s
def PSs (X:Cx)(st:List Stmt)(t:TS):Prop :=
 ∀ (pins:List (Addr×Obj))(s:Shared)(σ:St)(H:Hp)(D:Ends),Inv X pins σ H s->t D σ H->wpAny (model X.prog X.w) X.A (execs st X.env) (SP X pins D) X.xe s
theorem thn {α:Type}{t:Sem α}{Q Q':α->Shared->Prop}{M:Model}{A:Around}{E:Value->Shared->Prop}{s:Shared}(h:wpAny M A t Q E s)(hQ:∀ a s,Q a s->Q' a s):wpAny M A t Q' E s:=wpAny_mono h hQ fun _ _ x=>x
end L2
namespace L2
open PySem PySem.Spec PyProof.Rows
section
variable {X:Cx}
theorem bin {a b:Expr}{ta tb:TE}(ha:PE X a ta)(hb:PE X b tb){pins:List (Addr×Obj)}{s:Shared}{σ:St}{H:Hp}{R:V->V->Hp->Prop}(I:Inv X pins σ H s)(h:ta σ H fun x H1=>tb σ H1 fun y H2=>R x y H2)
  {α:Type}{Q:α->Shared->Prop}{f:Value->Value->Sem α}
  (hf:∀ v u s2 x y H2,Inv X pins σ H2 s2->RelV x v->RelV y u->R x y H2->wpAny (model X.prog X.w) X.A (f v u) Q X.xe s2) :
  wpAny (model X.prog X.w) X.A (eval a X.env) (fun v s₁=>wpAny (model X.prog X.w) X.A (eval b X.env) (fun u s₂=>wpAny (model X.prog X.w) X.A (f v u) Q X.xe s₂) X.xe s₁) X.xe s:=by
 refine thn (ha pins s σ H _ I h) fun v s1 ⟨x,H1,I1,r1,q1⟩=>?_
 refine thn (hb pins s1 σ H1 _ I1 q1) fun u s2 ⟨y,H2,I2,r2,q2⟩=>?_
 exact hf v u s2 x y H2 I2 r1 r2 q2
def tVar (i:Nat):TE:=fun σ H Q=>∃ v,σ[i]?=some (some v)/\Q v H
def tC (v:V):TE:=fun _ H Q=>Q v H
theorem pe_var {i:Nat}{x:Str}{pos:Pos}(hN:X.N[i]?=some x)(hv:Vis X.env.scope x)(hd:(x==("__debug__" : Str))=false:=by decide)(hcd:(x==("__classdict__" : Str))=false:=by decide):PE X (.Name x pos) (tVar i):=by
 intro pins s σ H Q I h;obtain⟨v,e,h⟩:=h;obtain⟨m,hn,hl⟩:=I.loc;obtain⟨u,r,l⟩:=hl i x v hN e hv;have fin:EP X pins σ Q u s:=⟨v,H,I,r,h⟩
 rcases l with ⟨hk,hm⟩ | ⟨hk,c,hc,hcell⟩
 ·exact wpAny_Name (wpAny_loadName_local I.ok.kind hk hn hm fin) hd
 ·rcases hk with hk | hk
  ·exact wpAny_Name (wpAny_loadName_cell I.ok.kind hk hc hcell fin) hd
  ·exact wpAny_Name (wpAny_loadName_free I.ok.kind hk hc hcell fin hcd) hd
theorem eJ {i j pos}:PE X (.Constant (.int i) j pos) (tC (.int i)):=fun _ _ _ H _ I h=>wpAny_Constant_int ⟨.int i,H,I.tok _,⟨_,rfl⟩,h⟩
theorem pe_bl {b j pos}:PE X (.Constant (.bool b) j pos) (tC (.bl b)):=fun _ _ _ H _ I h=>Constant_bool ⟨.bl b,H,I,rfl,h⟩
theorem pe_non {j pos}:PE X (.Constant .none j pos) (tC .non):=fun _ _ _ H _ I h=>Constant_none ⟨.non,H,I,rfl,h⟩
theorem cZ {x j pos}:PE X (.Constant (.str x) j pos) (tC (.str x)):=fun _ _ _ H _ I h=>Calls.Constant_str ⟨.str x,H,I.tok _,⟨_,rfl⟩,h⟩
def Gl (X:Cx)(x:Str):Prop:=X.env.kindOf x=some .globalImplicit
theorem ld_glob {E:Value->Shared->Prop}{pins:List (Addr×Obj)}{s:Shared}{σ:St}{H:Hp}{x:Str}{u:Value}{pos:Pos}{Q:Value->Shared->Prop}(I:Inv X pins σ H s)(hg:Gl X x)(hm:X.mg x=some u)(h:Q u s)
  (hd:(x==("__debug__" : Str))=false:=by decide):wpAny (model X.prog X.w) X.A (eval (.Name x pos) X.env) Q E s :=
 Calls.Name_function_global I.ok.kind hg (Calls.loadGlobal_global (by rw [I.ok.glob];exact I.mod.glob.keeps I.bk) hm h) hd
theorem ld_blt {E:Value->Shared->Prop}{pins:List (Addr×Obj)}{s:Shared}{σ:St}{H:Hp}{x:Str}{u:Value}{pos:Pos}{Q:Value->Shared->Prop}(I:Inv X pins σ H s)(hg:Gl X x)(hm:X.mg x=none)(hv:bootBuiltins x=some u)(h:Q u s)
  (hn:x ≠ "__name__" := by decide)(hd:(x==("__debug__" : Str))=false:=by decide):wpAny (model X.prog X.w) X.A (eval (.Name x pos) X.env) Q E s:=by
 obtain⟨mb,h1,h2⟩:=I.mod.blt;exact Calls.Name_function_global I.ok.kind hg (Calls.loadGlobal_builtin (by rw [I.ok.glob];exact I.mod.glob.keeps I.bk) hm (by rw [I.ok.blt];exact h1.keeps I.bk) ((h2 x hn).trans hv) h) hd
theorem pe_glob {x:Str}{v:V}{u:Value}{pos:Pos}(hg:Gl X x)(hm:X.mg x=some u)(r:RelV v u)(hd:(x==("__debug__" : Str))=false:=by decide):PE X (.Name x pos) (tC v) :=
 fun _ _ _ H _ I h=>ld_glob I hg hm ⟨v,H,I,r,h⟩ hd
variable {a b:Expr}{ta tb:TE}{pos:Pos}
def PC (X:Cx)(op:CmpOp)(a b:Expr)(t:TE):Prop :=
 ∀ (pins:List (Addr×Obj))(s:Shared)(σ:St)(H:Hp)(Q:VK),Inv X pins σ H s->t σ H Q ->
  wpAny (model X.prog X.w) X.A (eval a X.env) (fun v s₁=>wpAny (model X.prog X.w) X.A (eval b X.env) (fun u s₂=>wpAny (model X.prog X.w) X.A (compareOp op v u) (EP X pins σ Q) X.xe s₂) X.xe s₁) X.xe s
theorem nobehind (b:Expr){op:CmpOp}(h:op≠.In)(h2:op≠.NotIn):behindInMarks op b=false:=by
 have e1:(op==CmpOp.In)=false:=by cases op <;> first | rfl | exact absurd rfl h
 have e2:(op==CmpOp.NotIn)=false:=by cases op <;> first | rfl | exact absurd rfl h2
 cases b <;> simp [behindInMarks,e1,e2]
def tIsN (ta:TE):TE:=fun σ H Q=>ta σ H fun x H1=>Q (.bl (decide (x=.non))) H1
def tNotN (ta:TE):TE:=fun σ H Q=>ta σ H fun x H1=>Q (.bl (!decide (x=.non))) H1
theorem RelV.none_iff {x:V}{v:Value}(r:RelV x v):(v==Value.none)=decide (x=.non):=by
 cases x with
 | non=>cases r;rfl
 | bl _=>cases r;rfl
 | int _=>obtain⟨t,rfl⟩:=r;rfl
 | str _=>obtain⟨t,rfl⟩:=r;rfl
 | byt _=>obtain⟨t,rfl⟩:=r;rfl
 | flt _=>obtain⟨t,rfl⟩:=r;rfl
 | ref _=>cases r;rfl
 | ty _=>cases r;rfl
theorem pc_isN {j pos'}(ha:PE X a ta):PC X .Is a (.Constant .none j pos') (tIsN ta):=by
 intro pins s σ H Q I h;refine thn (ha pins s σ H _ I h) fun v s1 ⟨x,H1,I1,r1,q1⟩=>?_
 exact Constant_none (is_none_gen ⟨.bl _,H1,I1,by rw [r1.none_iff];rfl,q1⟩)
theorem pc_notN {j pos'}(ha:PE X a ta):PC X .IsNot a (.Constant .none j pos') (tNotN ta):=by
 intro pins s σ H Q I h;refine thn (ha pins s σ H _ I h) fun v s1 ⟨x,H1,I1,r1,q1⟩=>?_
 exact Constant_none (isnot_none_gen ⟨.bl _,H1,I1,by rw [r1.none_iff];rfl,q1⟩)
def tB (t:TE):TT:=fun σ H Q=>t σ H fun x H1=>∃ c,x=.bl c/\Q c H1
theorem pe_cmp {op:CmpOp}{t:TE}(h:PC X op a b t)(h1:behindInMarks op b=false:=by first | exact nobehind _ (by decide) (by decide) | rfl):PE X (.Compare a [op] [b] pos) t:=fun pins s σ H Q I hw=>wpAny_Compare1 (h pins s σ H Q I hw) h1
theorem hE {op:CmpOp}{t:TE}(h:PC X op a b t)(h1:behindInMarks op b=false:=by first | exact nobehind _ (by decide) (by decide) | rfl):PT X (.Compare a [op] [b] pos) (tB t):=by
 intro pins s σ H Q I hw;refine wpAny_isTrue_Compare1 (thn (h pins s σ H _ I hw) fun v s1 h1=>thn h1 fun u s2 h2=>thn h2 fun c s3 ⟨x,H1,I1,r1,q1⟩=>?_) h1
 obtain⟨d,rfl,q⟩:=q1;cases r1;exact wpAny_truthy_bool ⟨H1,I1,q⟩
theorem aX {e:Expr}{t:TE}(h:PE X e t)(he:∀ whole,isTrue e X.env whole=(do let v <-whole;standAt e.pos;holding [v] (truthy v)):=by intro _;rfl):PT X e (tB t):=by
 intro pins s σ H Q I hw;refine isTrue_plain (thn (h pins s σ H _ I hw) fun v s1 ⟨x,H1,I1,r1,q1⟩=>?_) (he _)
 obtain⟨d,rfl,q⟩:=q1;cases r1;exact wpAny_truthy_bool ⟨H1,I1,q⟩
variable {tA tB':TT}{rest:List Expr}
def tAnd (t u:TT):TT:=fun σ H Q=>t σ H fun c H1=>if c=true then u σ H1 Q else Q false H1
def tOr (t u:TT):TT:=fun σ H Q=>t σ H fun c H1=>if c=true then Q true H1 else u σ H1 Q
def tNot (t:TT):TT:=fun σ H Q=>t σ H fun c H1=>Q (!c) H1
theorem gZ (ha:PT X a tA):PW X (.BoolOp .And [a] pos) tA:=by
 intro wh pins s σ H Q I h;refine isTrue_and (thn (ha pins s σ H Q I h) fun c s1 e=>?_)
 cases c with
 | true=>exact isTrue_and_nil e
 | false=>exact e
theorem pw_or1 (ha:PT X a tA):PW X (.BoolOp .Or [a] pos) tA:=by
 intro wh pins s σ H Q I h;refine isTrue_or (thn (ha pins s σ H Q I h) fun c s1 e=>?_)
 cases c with
 | false=>exact isTrue_or_nil e
 | true=>exact e
theorem iS (ha:PT X a tA)(hb:PW X (.BoolOp .And (b::rest) pos) tB'):PW X (.BoolOp .And (a::b::rest) pos) (tAnd tA tB'):=by
 intro wh pins s σ H Q I h;refine isTrue_and (thn (ha pins s σ H _ I h) fun c s1 ⟨H1,I1,q1⟩=>?_)
 cases c with
 | true=>exact hb wh pins s1 σ H1 Q I1 q1
 | false=>exact⟨H1,I1,q1⟩
theorem pw_or (ha:PT X a tA)(hb:PW X (.BoolOp .Or (b::rest) pos) tB'):PW X (.BoolOp .Or (a::b::rest) pos) (tOr tA tB'):=by
 intro wh pins s σ H Q I h;refine isTrue_or (thn (ha pins s σ H _ I h) fun c s1 ⟨H1,I1,q1⟩=>?_)
 cases c with
 | true=>exact⟨H1,I1,q1⟩
 | false=>exact hb wh pins s1 σ H1 Q I1 q1
theorem gB (ha:PT X a tA):PT X (.UnaryOp .Not a pos) (tNot tA):=by
 intro pins s σ H Q I h;exact isTrue_not (ha pins s σ H (fun c H1=>Q (!c) H1) I h)
def tAndV (ta tb:TE):TE:=fun σ H Q=>ta σ H fun x H1=>∃ c,x=.bl c/\if c=true then tb σ H1 Q else Q (.bl false) H1
def tOrV (ta tb:TE):TE:=fun σ H Q=>ta σ H fun x H1=>∃ c,x=.bl c/\if c=true then Q (.bl true) H1 else tb σ H1 Q
def tNotV (ta:TE):TE:=fun σ H Q=>ta σ H fun x H1=>∃ c,x=.bl c/\Q (.bl (!c)) H1
theorem jO {op}{t:TE}(h:PE X a t):PE X (.BoolOp op [a] pos) t:=fun pins s σ H Q I hw=>BoolOp_one (h pins s σ H Q I hw)
theorem pe_and (ha:PE X a ta)(hb:PE X (.BoolOp .And (b::rest) pos) tb):PE X (.BoolOp .And (a::b::rest) pos) (tAndV ta tb):=by
 intro pins s σ H Q I h;refine BoolOp_and (thn (ha pins s σ H _ I h) fun v s1 ⟨x,H1,I1,r1,q1⟩=>?_)
 obtain⟨c,rfl,q1⟩:=q1;cases r1;refine wpAny_truthy_bool ?_
 cases c with
 | true=>exact hb pins s1 σ H1 Q I1 q1
 | false=>exact⟨.bl false,H1,I1,rfl,q1⟩
theorem pe_or (ha:PE X a ta)(hb:PE X (.BoolOp .Or (b::rest) pos) tb):PE X (.BoolOp .Or (a::b::rest) pos) (tOrV ta tb):=by
 intro pins s σ H Q I h;refine BoolOp_or (thn (ha pins s σ H _ I h) fun v s1 ⟨x,H1,I1,r1,q1⟩=>?_)
 obtain⟨c,rfl,q1⟩:=q1;cases r1;refine wpAny_truthy_bool ?_
 cases c with
 | false=>exact hb pins s1 σ H1 Q I1 q1
 | true=>exact⟨.bl true,H1,I1,rfl,q1⟩
theorem pe_not (ha:PE X a ta):PE X (.UnaryOp .Not a pos) (tNotV ta):=by
 intro pins s σ H Q I h;refine UnaryOp_ (thn (ha pins s σ H _ I h) fun v s1 ⟨x,H1,I1,r1,q1⟩=>?_)
 obtain⟨c,rfl,q1⟩:=q1;cases r1;exact not_of (wpAny_truthy_bool ⟨.bl (!c),H1,I1,rfl,q1⟩)
def tIf (t:TT)(ta tb:TE):TE:=fun σ H Q=>t σ H fun c H1=>if c=true then ta σ H1 Q else tb σ H1 Q
theorem pe_ifExp {c:Expr}(hc:PT X c tA)(ha:PE X a ta)(hb:PE X b tb):PE X (.IfExp c a b pos) (tIf tA ta tb):=by
 intro pins s σ H Q I h;refine wpAny_IfExp (thn (hc pins s σ H _ I h) fun d s1 ⟨H1,I1,q1⟩=>?_)
 cases d with
 | true=>exact ha pins s1 σ H1 Q I1 q1
 | false=>exact hb pins s1 σ H1 Q I1 q1
end
end L2
namespace L2
open PySem PySem.Spec PyProof.Rows
def SqL (K:W.Frag)(H:Hp)(a:Addr)(xs:List V):Prop :=
 Rd H a (.lst xs) \/
  ∃ (o:Obj)(its:Array Value)(n:Nat),K.lookup a=some o/\o.cls=.type "list" /\ o.dict=none/\o.data=.seq its n/\its.size<=sizeLine/\Vals xs its.toList
def SqT (K:W.Frag)(H:Hp)(a:Addr)(xs:List V):Prop :=
 Rd H a (.tup xs) \/
  ∃ (o:Obj)(its:Array Value)(n:Nat),K.lookup a=some o/\o.cls=.type "tuple" /\ o.data=.seq its n/\its.size<=sizeLine/\Vals xs its.toList
def absV:Value->Option V
 | .none=>some .non
 | .bool b=>some (.bl b)
 | .int i _=>some (.int i)
 | .str x _=>some (.str x)
 | .bytes b _=>some (.byt b)
 | .float b _=>some (.flt b)
 | .ref a=>some (.ref a)
 | .type n=>some (.ty n)
 | _=>none
theorem RelV.abs {x:V}{u:Value}(r:RelV x u):absV u=some x:=by
 cases x with
 | non=>cases r;rfl
 | bl _=>cases r;rfl
 | int _=>obtain⟨t,rfl⟩:=r;rfl
 | str _=>obtain⟨t,rfl⟩:=r;rfl
 | byt _=>obtain⟨t,rfl⟩:=r;rfl
 | flt _=>obtain⟨t,rfl⟩:=r;rfl
 | ref _=>cases r;rfl
 | ty _=>cases r;rfl
theorem RelV.inj {x y:V}{u:Value}(r:RelV x u)(q:RelV y u):x=y:=Option.some.inj (r.abs.symm.trans q.abs)
theorem Vals.inj:∀ {xs ys:List V}{us:List Value},Vals xs us->Vals ys us->xs=ys
 | _,_,_,.nil,.nil=>rfl
 | _,_,_,.cons r t,.cons r' t'=>by rw [r.inj r',Vals.inj t t']
section
variable {X:Cx}{pins:List (Addr×Obj)}{σ:St}{H:Hp}{s:Shared}{a:Addr}{xs ys:List V}
theorem SqL.of {K:W.Frag}(h:H a=some (.lst xs)):SqL K H a xs:=.inl (.inl h)
theorem SqT.of {K:W.Frag}(h:H a=some (.tup xs)):SqT K H a xs:=.inl (.inl h)
theorem Inv.list (I:Inv X pins σ H s)(h:SqL X.K H a xs):∃ its:List Value,Vals xs its/\PlainL s.heap a its.toArray/\xs.length<=sizeLine:=by
 rcases h with h | ⟨o,its,n,hk,hc,hd,hs,hz,r⟩
 ·obtain⟨z,its,n,r,e⟩:=h.ok I.hok;exact⟨its,r,⟨_,n,e,rfl,rfl,rfl⟩,z⟩
 ·refine⟨its.toList,r,⟨o,n,I.kIn a o hk,hc,hd,by simpa using hs⟩,?_⟩
  have e:=r.length;simp only [Array.length_toList] at e;omega
theorem Inv.tuple (I:Inv X pins σ H s)(h:SqT X.K H a xs):∃ its:List Value,Vals xs its/\IsTup s.heap a its.toArray/\xs.length<=sizeLine:=by
 rcases h with h | ⟨o,its,n,hk,hc,hs,hz,r⟩
 ·obtain⟨z,its,r,p⟩:=h.ok I.hok;exact⟨its,r,p.tup,z⟩
 ·refine⟨its.toList,r,⟨o,I.kIn a o hk,hc,n,by simpa using hs⟩,?_⟩
  have e:=r.length;simp only [Array.length_toList] at e;omega
theorem Inv.list_inj (I:Inv X pins σ H s)(h:SqL X.K H a xs)(h':SqL X.K H a ys):xs=ys:=by
 obtain⟨its,r,⟨o,n,e,_,_,d⟩,_⟩:=I.list h;obtain⟨its',r',⟨o',n',e',_,_,d'⟩,_⟩:=I.list h';rw [e] at e';cases e';rw [d] at d';injection d' with d1 _
 have:its=its':=by simpa using congrArg Array.toList d1
 subst this;exact r.inj r'
theorem Inv.tuple_inj (I:Inv X pins σ H s)(h:SqT X.K H a xs)(h':SqT X.K H a ys):xs=ys:=by
 obtain⟨its,r,⟨o,e,_,n,d⟩,_⟩:=I.tuple h;obtain⟨its',r',⟨o',e',_,n',d'⟩,_⟩:=I.tuple h';rw [e] at e';cases e';rw [d] at d';injection d' with d1 _
 have:its=its':=by simpa using congrArg Array.toList d1
 subst this;exact r.inj r'
end
abbrev Cx.wish (X:Cx)(E:Value->Shared->Prop):Cx:={X with xe:=E}
abbrev Cx.nox (X:Cx):Cx:=X.wish fun _ _=>False
theorem Cx.Ok.wish {X:Cx}(ok:X.Ok)(E:Value->Shared->Prop):(X.wish E).Ok :=
 ⟨ok.mod,ok.kind,ok.glob,ok.blt,ok.above,ok.inj,ok.has,ok.cab,ok.hd,ok.frames,ok.stk,ok.exf,ok.bs,ok.bsz,ok.noex,ok.exfs,ok.funs,ok.frf⟩
theorem Cx.Ok.unwish {X:Cx}{E:Value->Shared->Prop}(ok:(X.wish E).Ok):X.Ok :=
 ⟨ok.mod,ok.kind,ok.glob,ok.blt,ok.above,ok.inj,ok.has,ok.cab,ok.hd,ok.frames,ok.stk,ok.exf,ok.bs,ok.bsz,ok.noex,ok.exfs,ok.funs,ok.frf⟩
section
variable {X:Cx}{pins:List (Addr×Obj)}{σ:St}{H:Hp}{s:Shared}{E:Value->Shared->Prop}
theorem Inv.wish (I:Inv X pins σ H s)(E:Value->Shared->Prop):Inv (X.wish E) pins σ H s:=⟨I.ok.wish E,I.os,I.bare,I.base,I.loc,I.cell,I.free,I.freeC,I.pin,I.hok,I.len⟩
theorem Inv.unwish (I:Inv (X.wish E) pins σ H s):Inv X pins σ H s:=⟨I.ok.unwish,I.os,I.bare,I.base,I.loc,I.cell,I.free,I.freeC,I.pin,I.hok,I.len⟩
theorem SP.unwish {D:Ends}{f:Flow}{s':Shared}(h:SP (X.wish E) pins D f s'):SP X pins D f s':=by
 cases f with
 | next=>obtain⟨σ',H',I,q⟩:=h;exact⟨σ',H',I.unwish,q⟩
 | brk=>obtain⟨σ',H',I,q⟩:=h;exact⟨σ',H',I.unwish,q⟩
 | cont=>obtain⟨σ',H',I,q⟩:=h;exact⟨σ',H',I.unwish,q⟩
 | ret u=>obtain⟨v,σ',H',I,r,q⟩:=h;exact⟨v,σ',H',I.unwish,r,q⟩
theorem PSs.nox {st:List Stmt}{t:TS}(h:PSs X.nox st t):PSs X st t:=fun pins s σ H D I hw =>
 wpAny_mono (h pins s σ H D (I.wish _) hw) (fun _ _ q=>q.unwish) fun _ _ z=>False.elim z
end
section
variable {X:Cx}{st:Stmt}{rest:List Stmt}{t u:TS}{e:Expr}{te:TE}{pos:Pos}
def tNext:TS:=fun D σ H=>D.nx σ H
def tSeq (t u:TS):TS:=fun D σ H=>t {D with nx:=u D} σ H
theorem sN:PSs X [] tNext:=fun _ _ σ H _ I h=>wpAny_execs_nil ⟨σ,H,I,h⟩
theorem sC (h1:PS X st t)(h2:PSs X rest u):PSs X (st::rest) (tSeq t u):=by
 intro pins s σ H D I h;refine wpAny_execs_cons (thn (h1 pins s σ H {D with nx:=u D} I h) fun f s1 q=>?_)
 cases f with
 | next =>
  obtain⟨σ',H',I',q⟩:=q;exact h2 pins s1 σ' H' D I' q
 | ret v=>exact q
 | brk=>exact q
 | cont=>exact q
theorem sO (h1:PS X st t):PSs X [st] t:=by
 intro pins s σ H D I h;refine wpAny_execs_cons (thn (h1 pins s σ H D I h) fun f s1 q=>?_)
 cases f with
 | next=>exact wpAny_execs_nil q
 | ret v=>exact q
 | brk=>exact q
 | cont=>exact q
theorem Inv.quiet {pins:List (Addr×Obj)}{σ:St}{H:Hp}{s:Shared}(I:Inv X pins σ H s):interactive X.env=false:=by simp [interactive,I.ok.kind]
def tDrop (te:TE):TS:=fun D σ H=>te σ H fun _ H1=>D.nx σ H1
theorem bZ (he:PE X e te)(hs:swapsWith e none pos.line X.env=pure false:=by rfl):PS X (.Expr e pos) (tDrop te):=by
 intro pins s σ H D I h;exact wpAny_Expr_any (thn (he pins s σ H _ I h) fun v s1 ⟨x,H1,I1,r1,q1⟩=>⟨σ,H1,I1,q1⟩) I.quiet hs
def tRet (te:TE):TS:=fun D σ H=>te σ H D.rt
theorem sR (he:PE X e te):PS X (.Return (some e) pos) (tRet te):=by
 intro pins s σ H D I h;exact wpAny_Return_some (thn (he pins s σ H _ I h) fun v s1 ⟨x,H1,I1,r1,q1⟩=>⟨x,σ,H1,I1,r1,q1⟩)
def tIfS (c:TT)(t u:TS):TS:=fun D σ H=>c σ H fun b H1=>if b=true then t D σ H1 else u D σ H1
theorem aB {c:Expr}{a b:List Stmt}{tc:TT}(hc:PT X c tc)(ha:PSs X a t)(hb:PSs X b u):PS X (.If c a b pos) (tIfS tc t u):=by
 intro pins s σ H D I h;refine wpAny_If (thn (hc pins s σ H _ I h) fun d s1 ⟨H1,I1,q1⟩=>?_)
 cases d with
 | true=>exact ha pins s1 σ H1 D I1 q1
 | false=>exact hb pins s1 σ H1 D I1 q1
def tNever:TS:=fun _ _ _=>False
theorem ps_never:PS X st tNever:=fun _ _ _ _ _ _ h=>h.elim
end
abbrev TG:=V->St->Hp->(St->Hp->Prop)->Prop
abbrev TGs:=List V->St->Hp->(St->Hp->Prop)->Prop
def PG (X:Cx)(target:Expr)(t:TG):Prop :=
 ∀ (pins:List (Addr×Obj))(s:Shared)(σ:St)(H:Hp)(v:V)(u:Value)(Q:St->Hp->Prop),Inv X pins σ H s->RelV v u->t v σ H Q ->
  wpAny (model X.prog X.w) X.A (assign target X.env u) (fun _ s'=>∃ σ' H',Inv X pins σ' H' s'/\Q σ' H') X.xe s
def PGs (X:Cx)(ts:List Expr)(t:TGs):Prop :=
 ∀ (pins:List (Addr×Obj))(s:Shared)(σ:St)(H:Hp)(vs:List V)(us:List Value)(Q:St->Hp->Prop),Inv X pins σ H s->Vals vs us->t vs σ H Q ->
  wpAny (model X.prog X.w) X.A (assignInOrder ((assignEach ts X.env).map (·.2)) us) (fun _ s'=>∃ σ' H',Inv X pins σ' H' s'/\Q σ' H') X.xe s
abbrev TSet:=V->V->V->Hp->(Hp->Prop)->Prop
def PSet (X:Cx)(t:TSet):Prop :=
 ∀ (pins:List (Addr×Obj))(s:Shared)(σ:St)(H:Hp)(o i v:V)(ov iv u:Value)(Q:Hp->Prop),Inv X pins σ H s->RelV o ov->RelV i iv->RelV v u->t o i v H Q ->
  wpAny (model X.prog X.w) X.A (setItem ov iv u) (fun _ s'=>∃ H',Inv X pins σ H' s'/\Q H') X.xe s
section
variable {X:Cx}{pos:Pos}
def gJ (i:Nat):TG:=fun v σ H Q=>Q (σ.set i (some v)) H
theorem cY {i:Nat}{x:Str}(hN:X.N.Nodup)(hi:X.N[i]?=some x)(hx:Loc X.env.scope x)(hf:X.fn x=true\/X.env.scope.names.lookup x=some .local:=by first | exact .inl rfl | exact .inr rfl | assumption):PG X (.Name x pos) (gJ i):=by
 intro pins s σ H v u Q I r h;exact wpAny_assign_Name (store_ok I hN hi hx r (fun s' I'=>⟨_,H,I',h⟩) hf)
def gNil:TGs:=fun vs σ H Q=>vs=[]/\Q σ H
def gCons (t:TG)(u:TGs):TGs:=fun vs σ H Q=>∃ v r,vs=v::r/\t v σ H fun σ' H'=>u r σ' H' Q
theorem pgs_nil:PGs X [] gNil:=by
 intro pins s σ H vs us Q I r h;obtain⟨e,h⟩:=h;subst e;cases r;exact assignInOrder_nil ⟨σ,H,I,h⟩
theorem pgs_cons {e:Expr}{es:List Expr}{t:TG}{u:TGs}(h1:PG X e t)(h2:PGs X es u)
  (hs:(assignEach (e::es) X.env).map (·.2)=assign e X.env::(assignEach es X.env).map (·.2):=by rfl):PGs X (e::es) (gCons t u):=by
 intro pins s σ H vs us Q I r h;obtain⟨v,vr,e1,h⟩:=h;subst e1;cases r with
 | cons r rr =>
  rw [hs];refine assignInOrder_cons (thn (h1 pins s σ H _ _ _ I r h) fun _ s1 ⟨σ1,H1,I1,q1⟩=>?_)
  exact h2 pins s1 σ1 H1 _ _ Q I1 rr q1
def gTup (K:W.Frag)(n:Nat)(t:TGs):TG:=fun v σ H Q=>∃ a xs,v=.ref a/\SqT K H a xs/\xs.length=n/\t xs σ H Q
theorem pg_tup {es:List Expr}{k:Nat}{t:TGs}{n:Nat}(hc:X.calm=true)(h:PGs X es t)
  (hn:(assignEach es X.env).length=n:=by rfl)(hst:(assignEach es X.env).findIdx? (·.1)=none:=by rfl):PG X (.Tuple es k pos) (gTup X.K n t):=by
 intro pins s σ H v u Q I r hw;obtain⟨a,xs,e1,hq,hl,hw⟩:=hw;subst e1;cases r;obtain⟨its,rv,ht,hz⟩:=I.tuple hq;refine assign_Tuple_tuple (I.ok.hd hc) ht (by simp [hn,<-hl,rv.length]) hst fun h' hx=>?_
 have I1:Inv X pins σ H {s with heap:=h'}:=I.kept (t':=s.toks) fun b o e=>hx b o (Nat.ne_of_lt (Heap.lt_size e)) e
 exact h pins _ σ H xs _ Q I1 (by simpa using rv) hw
def gSub (to ti:TE)(t:TSet):TG:=fun v σ H Q=>to σ H fun o H1=>ti σ H1 fun i H2=>t o i v H2 fun H3=>Q σ H3
theorem pg_sub {o i:Expr}{to ti:TE}{t:TSet}(ho:PE X o to)(hi:PE X i ti)(hs:PSet X t)
  (ha:∀ v,assign (.Subscript o i pos) X.env v=(do
   let ov <-holding [v] (eval o X.env)
   let iv <-holding [v,ov] (eval i X.env)
   standAt pos
   holding [v,ov,iv] (setItem ov iv v)
   release [v,ov,iv] []):=by intro _;rfl):PG X (.Subscript o i pos) (gSub to ti t):=by
 intro pins s σ H v u Q I r h;rw [ha];refine wpAny_bind (wpAny_holding (thn (ho pins s σ H _ I h) fun ov s1 ⟨x,H1,I1,r1,q1⟩=>?_))
 refine wpAny_bind (wpAny_holding (thn (hi pins s1 σ H1 _ I1 q1) fun iv s2 ⟨y,H2,I2,r2,q2⟩=>?_))
 refine wpAny_bind (wpAny_standAt (wpAny_bind (wpAny_holding (thn (hs pins s2 σ H2 x y v ov iv u _ I2 r1 r2 r q2) fun _ s3 ⟨H3,I3,q3⟩=>?_))))
 exact wpAny_release ⟨σ,H3,I3,q3⟩
def tAsg (te:TE)(g:TG):TS:=fun D σ H=>te σ H fun x H1=>g x σ H1 D.nx
theorem ps_asg {tg e:Expr}{te:TE}{g:TG}(he:PE X e te)(hg:PG X tg g)(hs:swapsWithSole [tg] e pos.line X.env=pure false:=by rfl)(hw:swappedStores [tg] e X.env=pure none:=by rfl)
  (h1:(assignEach [tg] X.env).map (·.2)=[assign tg X.env]:=by rfl):PS X (.Assign [tg] e pos) (tAsg te g):=by
 intro pins s σ H D I h;refine wpAny_Assign_stores (thn (he pins s σ H _ I h) fun v s1 ⟨x,H1,I1,r1,q1⟩=>?_) hs hw
 rw [h1];exact thn (hg pins s1 σ H1 x v _ I1 r1 q1) fun _ s2 q=>q
theorem aD {i:Nat}{x:Str}{e:Expr}{te:TE}{pos':Pos}(hN:X.N.Nodup)(hi:X.N[i]?=some x)(hx:Loc X.env.scope x)(he:PE X e te)(hs:swapsWith e (some (.Name x pos')) pos.line X.env=pure false:=by rfl)(hf:X.fn x=true\/X.env.scope.names.lookup x=some .local:=by first | exact .inl rfl | exact .inr rfl | assumption) :
  PS X (.Assign [.Name x pos'] e pos) (tAsg te (gJ i)):=by
 intro pins s σ H D I h;refine wpAny_Assign_Name (thn (he pins s σ H _ I h) fun v s1 ⟨y,H1,I1,r1,q1⟩=>?_) hs
 exact store_ok I1 hN hi hx r1 (fun s2 I2=>⟨_,H1,I2,q1⟩) hf
end
section
variable {X:Cx}{pos:Pos}
def tWhile (c:TT)(tb:TS):TS:=fun D σ H=>∃ W:Nat->St->Hp->Prop,(∃ m,W m σ H)/\∀ m σ H,W m σ H ->
 c σ H fun b H1=>if b=true then ∃ N:St->Hp->Prop,(∀ σ' H',N σ' H'->∃ m',m' < m/\W m' σ' H')/\tb {D with nx:=N,ct:=N,bk:=D.nx} σ H1 else D.nx σ H1
theorem ps_while {c:Expr}{body:List Stmt}{tc:TT}{tb:TS}(hp:PassesOwn (model X.prog X.w) X.A X.env X.xe)(hc:PT X c tc)(hb:PSs X body tb):PS X (.While c body [] pos) (tWhile tc tb):=by
 intro pins s σ H D I h;obtain⟨W,⟨m0,w0⟩,turn⟩:=h;refine wpAny_While (codeAny_whileLoop (fun n s'=>∃ σ' H',Inv X pins σ' H' s'/\W n σ' H') ?_ m0 ⟨σ,H,I,w0⟩)
 rintro n s1 ⟨σ1,H1,I1,w1⟩
 refine wpAny_passesOwn hp (thn (hc pins s1 σ1 H1 _ I1 (turn n σ1 H1 w1)) fun b s2 ⟨H2,I2,q2⟩=>?_)
 cases b with
 | true =>
  obtain⟨N,hN,q2⟩:=q2;rw [if_pos rfl];refine wpAny_passesOwn hp (thn (hb pins s2 σ1 H2 _ I2 q2) fun f s3 q3=>?_)
  cases f with
  | next =>
   obtain⟨σ3,H3,I3,n3⟩:=q3;obtain⟨m',hm,w3⟩:=hN σ3 H3 n3;exact⟨m',hm,σ3,H3,I3,w3⟩
  | cont =>
   obtain⟨σ3,H3,I3,n3⟩:=q3;obtain⟨m',hm,w3⟩:=hN σ3 H3 n3;exact⟨m',hm,σ3,H3,I3,w3⟩
  | brk=>exact q3
  | ret v=>exact q3
 | false =>
  rw [if_neg Bool.false_ne_true];exact wpAny_execs_nil ⟨σ1,H2,I2,q2⟩
end
structure It where
 go:Nat->Hp->Prop
 yld:Nat->Hp->V->Hp->Prop
 stop:Nat->Hp->Prop
def FpOk (X:Cx)(pins:List (Addr×Obj))(H:Hp)(b:Addr):Prop :=
 H b=none/\b≠X.env.locals/\b ∉ X.fs/\(b∈X.ex\/X.s_0.heap.objs.size<=b)/\(∀ x c,X.env.cells.lookup x=some c->c≠b)/\∀ p∈X.pn++pins,p.1≠b
theorem Inv.fpOk {X:Cx}{pins:List (Addr×Obj)}{σ:St}{H H':Hp}{s:Shared}{b:Addr}(I:Inv X pins σ H s)(hb:s.heap.objs.size<=b)(hn:H' b=none):FpOk X pins H' b:=by
 refine⟨hn,Nat.ne_of_gt (Nat.lt_of_lt_of_le I.lt hb),I.nofs hb,.inr (Nat.le_trans I.sz hb),fun x c e z=>?_,fun p hp z=>?_⟩
 ·obtain⟨v,q⟩:=I.cell x c e;exact absurd (Nat.lt_of_lt_of_le q.lt (by rw [z];exact hb)) (Nat.lt_irrefl _)
 ·exact absurd (Nat.lt_of_lt_of_le (Heap.lt_size (I.pin p hp).1) (by rw [z];exact hb)) (Nat.lt_irrefl _)
structure Turn (P:Program)(w:World)(K:W.Frag)(tg:Expr)(J:It)(fp:List Addr)(it:Addr)(tn:Nat->Heap->Prop):Prop where
 mem:it∈fp
 obj:∀ i h,tn i h->∀ b∈fp,∃ o,h.get? b=some o/\∀ v,o.data≠.cell v
 keep:∀ i h h',tn i h->(∀ b∈fp,∀ o,h.get? b=some o->h'.get? b=some o)->tn i h'
 item:∀ (X:Cx),X.prog=P->X.w=w->X.K=K->X.calm=true->∀ (i:Nat)(pins:List (Addr×Obj))(s:Shared)(σ:St)(H:Hp)(E:Value->Shared->Prop),Inv X pins σ H s->(∀ b∈fp,FpOk X pins H b)->tn i s.heap->J.go i H ->
  wpAny (model P w) X.A (pyNext (.ref it)) (fun r s1=>∃ u,r=some u /\
   wpAny (model P w) X.A (letOwnedTupleGo tg (.ref it) u) (fun _ s2=>∃ x H',Inv X pins σ H' s2/\RelV x u/\J.yld i H x H'/\tn (i+1) s2.heap/\∀ b∈fp,H' b=none) E s1) E s
 done:∀ (X:Cx),X.prog=P->X.w=w->X.K=K->X.calm=true->∀ (i:Nat)(pins:List (Addr×Obj))(s:Shared)(σ:St)(H:Hp)(E:Value->Shared->Prop),Inv X pins σ H s->(∀ b∈fp,FpOk X pins H b)->tn i s.heap->J.stop i H ->
  wpAny (model P w) X.A (pyNext (.ref it)) (fun r s1=>r=none/\Inv X pins σ H s1) E s
 self:∀ (A:Around)(i:Nat)(s:Shared)(Q:Value->Shared->Prop)(E:Value->Shared->Prop),tn i s.heap->Q (.ref it) s->wpAny (model P w) A (pyIter (.ref it)) Q E s
abbrev TI:=St->Hp->(It->Hp->Prop)->Prop
def PIE (X:Cx)(pins:List (Addr×Obj))(σ:St)(tg:Expr)(R:It->Hp->Prop)(itv:Value)(s2:Shared):Prop :=
 ∃ (it:Addr)(fp:List Addr)(tn:Nat->Heap->Prop)(J:It)(H':Hp),itv=.ref it/\Inv X pins σ H' s2/\Turn X.prog X.w X.K tg J fp it tn/\tn 0 s2.heap/\(∀ b∈fp,FpOk X pins H' b)/\R J H'
def PI (X:Cx)(tg iter:Expr)(wi:TI):Prop :=
 ∀ (pins:List (Addr×Obj))(s:Shared)(σ:St)(H:Hp)(R:It->Hp->Prop),Inv X pins σ H s->wi σ H R ->
  wpAny (model X.prog X.w) X.A (eval iter X.env) (fun v s1=>wpAny (model X.prog X.w) X.A (pyIter v) (PIE X pins σ tg R) X.xe s1) X.xe s
theorem go_of {M : Model} {A : Around} {E : Value → Shared → Prop} {s : Shared} {tg : Expr} {it : Addr} {u : Value} {o : Obj} {n : String} {vs : Array Value} {Q : Unit → Shared → Prop} (ho : s.heap.get? it = some o) (hc : o.cls = .type n) (hd : o.data = .fields vs)
    (hn : ["enumerate", "zip", "dict_itemiterator", "dict_reverseitemiterator", "odict_iterator", "itertools.zip_longest", "itertools.pairwise"].contains n = false) (hQ : Q () s) : wpAny M A (letOwnedTupleGo tg (.ref it) u) Q E s := by
  unfold letOwnedTupleGo
  cases tg <;> first
    | exact wpAny_pure hQ
    | (cases u <;> first
        | exact wpAny_pure hQ
        | (refine wpAny_bind (wpAny_load ho ?_)
           rw [hc, hd]
           show wpAny M A (if (["enumerate", "zip", "dict_itemiterator", "dict_reverseitemiterator", "odict_iterator", "itertools.zip_longest", "itertools.pairwise"].contains n && vs[0]? == some (rawInt _)) = true then _ else _) Q E s
           rw [if_neg (by intro h; rw [hn, Bool.false_and] at h; cases h)]
           exact wpAny_pure hQ))
def Itl (K:W.Frag)(a:Addr):It :=
 ⟨fun i H=>∃ xs x,SqL K H a xs/\xs[i]?=some x,fun i H x H'=>H'=H/\∀ xs,SqL K H a xs->xs[i]?=some x,fun i H=>∃ xs,SqL K H a xs/\xs.length<=i⟩
def Itt (K:W.Frag)(a:Addr):It :=
 ⟨fun i H=>∃ xs x,SqT K H a xs/\xs[i]?=some x,fun i H x H'=>H'=H/\∀ xs,SqT K H a xs->xs[i]?=some x,fun i H=>∃ xs,SqT K H a xs/\xs.length<=i⟩
def Itr (lo:Int)(n:Nat):It:=⟨fun i _=>i < n,fun i H x H'=>H'=H/\x=.int (lo+i),fun i _=>n<=i⟩
theorem turn_list {P:Program}{w:World}{K:W.Frag}{tg:Expr}(a it:Addr):Turn P w K tg (Itl K a) [it] it (fun i h=>h.IsListIter it a i) where
 mem:=by simp
 obj:=fun i h st b hb=>by
  have e:b=it:=by simpa using hb
  subst e;obtain⟨o,e,c,d⟩:=st;exact⟨o,e,fun v z=>by rw [d] at z;cases z⟩
 keep:=fun i h h' st k=>st.at fun o e=>k it (by simp) o e
 item:=by
  intro X hP hw hK hc i pins s σ H E I hf st hg;subst hP hw hK;obtain⟨xs,x,hq,hx⟩:=hg;obtain⟨its,rv,p,hz⟩:=I.list hq;obtain⟨u,hu,ru⟩:=rv.get hx;obtain⟨f0,f1,f2,f3,f4,f5⟩:=hf it (by simp);refine wpAny_pyNext_list_item st p.isList (x:=u) (by simpa using hu) fun h' st' sb=>?_
  have I1:Inv X pins σ H {s with heap:=h'}:=I.turned (t':=s.toks) (fun b o hb e=>(sb.2 b hb).trans e) f0 f1 f3 f4 f5
  obtain⟨o,e,c,d⟩:=id st';exact⟨u,rfl,go_of (s:={s with heap:=h'}) e c d (by decide) ⟨x,H,I1,ru,⟨rfl,fun ys hy=>by rw [I.list_inj hy hq];exact hx⟩,st',fun b hb=>(hf b hb).1⟩⟩
 done:=by
  intro X hP hw hK hc i pins s σ H E I hf st hg;subst hP hw hK;obtain⟨xs,hq,hx⟩:=hg;obtain⟨its,rv,p,hz⟩:=I.list hq;obtain⟨f0,f1,f2,f3,f4,f5⟩:=hf it (by simp);have hl:=rv.length;exact wpAny_pyNext_list_end (I.ok.hd hc) st p.isList (by simp;omega) fun h' eb=>⟨rfl,I.turned (t':=s.toks) (fun b o hb e=>eb b o hb e) f0 f1 f3 f4 f5⟩
 self:=fun _ _ _ _ _ st h=>wpAny_pyIter_listiter st h
theorem turn_tuple {P:Program}{w:World}{K:W.Frag}{tg:Expr}(a it:Addr):Turn P w K tg (Itt K a) [it] it (fun i h=>h.IsTupleIter it a i) where
 mem:=by simp
 obj:=fun i h st b hb=>by
  have e:b=it:=by simpa using hb
  subst e;obtain⟨o,e,c,d⟩:=st;exact⟨o,e,fun v z=>by rw [d] at z;cases z⟩
 keep:=fun i h h' st k=>st.at fun o e=>k it (by simp) o e
 item:=by
  intro X hP hw hK hc i pins s σ H E I hf st hg;subst hP hw hK;obtain⟨xs,x,hq,hx⟩:=hg;obtain⟨its,rv,p,hz⟩:=I.tuple hq;obtain⟨u,hu,ru⟩:=rv.get hx;obtain⟨f0,f1,f2,f3,f4,f5⟩:=hf it (by simp);refine wpAny_pyNext_tuple_item st (show s.heap.IsTuple a its.toArray from p) (x:=u) (by simpa using hu) fun h' st' sb=>?_
  have I1:Inv X pins σ H {s with heap:=h'}:=I.turned (t':=s.toks) (fun b o hb e=>(sb.2 b hb).trans e) f0 f1 f3 f4 f5
  obtain⟨o,e,c,d⟩:=id st';exact⟨u,rfl,go_of (s:={s with heap:=h'}) e c d (by decide) ⟨x,H,I1,ru,⟨rfl,fun ys hy=>by rw [I.tuple_inj hy hq];exact hx⟩,st',fun b hb=>(hf b hb).1⟩⟩
 done:=by
  intro X hP hw hK hc i pins s σ H E I hf st hg;subst hP hw hK;obtain⟨xs,hq,hx⟩:=hg;obtain⟨its,rv,p,hz⟩:=I.tuple hq;obtain⟨f0,f1,f2,f3,f4,f5⟩:=hf it (by simp);have hl:=rv.length;exact wpAny_pyNext_tuple_end (I.ok.hd hc) st (show s.heap.IsTuple a its.toArray from p) (by simp;omega) fun h' eb=>⟨rfl,I.turned (t':=s.toks) (fun b o hb e=>eb b o hb e) f0 f1 f3 f4 f5⟩
 self:=fun _ _ _ _ _ st h=>wpAny_pyIter_tupleiter st h
theorem turn_range {P:Program}{w:World}{K:W.Frag}{tg:Expr}(it:Addr) (lo:Int)(n:Nat):Turn P w K tg (Itr lo n) [it] it (fun i h=>IsRangeIter h it (lo+(i:Nat)*1) ((n:Int) - (i:Nat)) 1) where
 mem:=by simp
 obj:=fun i h st b hb=>by
  have e:b=it:=by simpa using hb
  subst e
  exact⟨_,st,fun v z=>by
   have z':Data.fields _=Data.cell v:=z
   cases z'⟩
 keep:=fun i h h' st k=>k it (by simp) _ st
 item:=by
  intro X hP hw hK hc i pins s σ H E I hf st hg;subst hP hw hK;obtain⟨f0,f1,f2,f3,f4,f5⟩:=hf it (by simp);have W:=Walks.range (prog:=X.prog) (w:=X.w) (I.ok.hd hc) it lo 1 n
  refine W.item i s _ _ hg st fun v h' tk hv st' kk=>?_
  obtain⟨t,rfl⟩:=hv;have I1:Inv X pins σ H {s with heap:=h',toks:=tk}:=I.turned (fun b o hb e=>kk b o (by simpa using hb) e) f0 f1 f3 f4 f5
  refine⟨_,rfl,go_of (s:={s with heap:=h',toks:=tk}) (n := "range_iterator") st' rfl rfl (by decide) ⟨.int (lo+i),H,I1,⟨t,?_⟩,⟨rfl,rfl⟩,st',fun b hb=>(hf b hb).1⟩⟩
  rw [Int.mul_one]
 done:=by
  intro X hP hw hK hc i pins s σ H E I hf st hg;subst hP hw hK;obtain⟨f0,f1,f2,f3,f4,f5⟩:=hf it (by simp);exact wpAny_pyNext_range_end (I.ok.hd hc) st (by have:n<=i:=hg;omega) fun h' eb=>⟨rfl,I.turned (t':=s.toks) (fun b o hb e=>eb b o hb e) f0 f1 f3 f4 f5⟩
 self:=fun _ _ _ _ _ st h=>wpAny_pyIter_rangeiter st h
end L2
namespace L2
open PySem PySem.Spec PyProof.Rows
section
variable {X:Cx}{tg:Expr}
def iList (K:W.Frag)(tl:TE):TI:=fun σ H R=>tl σ H fun x H1=>∃ a,x=.ref a/\(∃ xs,SqL K H1 a xs)/\R (Itl K a) H1
def iTup (K:W.Frag)(tl:TE):TI:=fun σ H R=>tl σ H fun x H1=>∃ a,x=.ref a/\(∃ xs,SqT K H1 a xs)/\R (Itt K a) H1
theorem jX {l:Expr}{tl:TE}(hl:PE X l tl):PI X tg l (iList X.K tl):=by
 intro pins s σ H R I h;refine thn (hl pins s σ H _ I h) fun v s1 ⟨x,H1,I1,r1,q1⟩=>?_
 obtain⟨a,e,⟨xs,hq⟩,q⟩:=q1;subst e;cases r1;obtain⟨its,rv,p,hz⟩:=I1.list hq;refine wpAny_pyIter_list p.isList ?_
 refine⟨s1.heap.objs.size,[s1.heap.objs.size],_,_,H1,rfl,I1.kept (t':=s1.toks) fun b o e=>Heap.get?_push_of_some _ e,turn_list a _,⟨_,Heap.get?_push_size _ rfl,rfl,rfl⟩,fun b hb=>?_,q⟩
 have e:b=s1.heap.objs.size:=by simpa using hb
 subst e;exact I1.fpOk (Nat.le_refl _) (I1.hok.fresh (Nat.le_refl _))
theorem pi_tup {l:Expr}{tl:TE}(hl:PE X l tl):PI X tg l (iTup X.K tl):=by
 intro pins s σ H R I h;refine thn (hl pins s σ H _ I h) fun v s1 ⟨x,H1,I1,r1,q1⟩=>?_
 obtain⟨a,e,⟨xs,hq⟩,q⟩:=q1;subst e;cases r1;obtain⟨its,rv,p,hz⟩:=I1.tuple hq;refine wpAny_pyIter_tuple (show s1.heap.IsTuple a its.toArray from p) ?_
 refine⟨s1.heap.objs.size,[s1.heap.objs.size],_,_,H1,rfl,I1.kept (t':=s1.toks) fun b o e=>Heap.get?_push_of_some _ e,turn_tuple a _,⟨_,Heap.get?_push_size _ rfl,rfl,rfl⟩,fun b hb=>?_,q⟩
 have e:b=s1.heap.objs.size:=by simpa using hb
 subst e;exact I1.fpOk (Nat.le_refl _) (I1.hok.fresh (Nat.le_refl _))
theorem range_it {pins:List (Addr×Obj)}{σ:St}{H:Hp}{s:Shared}{R:It->Hp->Prop}{E:Value->Shared->Prop}{lo hi:Int}{t u v:Tok}{tk:Nat}(I:Inv X pins σ H s)(h1:-(2 ^ 62)<=lo)(h2:lo < 2 ^ 62)(h3:-(2 ^ 62)<=hi)(h4:hi < 2 ^ 62)
  (q:R (Itr lo (hi - lo).toNat) H):wpAny (model X.prog X.w) X.A (pyIter (.ref s.heap.objs.size)) (PIE X pins σ tg R) E {s with heap:=s.heap.push {cls:=.type "range",data:=.fields #[.int lo t,.int hi u,.int 1 v]},toks:=tk}:=by
 refine wpAny_pyIter_range (IsRange.new ..) (small_one h1 h2 h3 h4) ?_
 have I1:Inv X pins σ H {s with heap:=s.heap.push {cls:=.type "range",data:=.fields #[.int lo t,.int hi u,.int 1 v]},toks:=tk}:=I.kept fun b o e=>Heap.get?_push_of_some _ e
 refine⟨(s.heap.push {cls:=.type "range",data:=.fields #[.int lo t,.int hi u,.int 1 v]}).objs.size,[(s.heap.push {cls:=.type "range",data:=.fields #[.int lo t,.int hi u,.int 1 v]}).objs.size],_,_,H,rfl,
  I1.kept (t':=tk) fun b o e=>Heap.get?_push_of_some _ e,turn_range _ lo (hi - lo).toNat,?_,fun b hb=>?_,q⟩
 ·have e1:lo+((0:Nat):Int)*1=lo:=by simp
  have e2:(((hi - lo).toNat:Nat):Int) - ((0:Nat):Int)=Builtin.Range.rangeSize lo hi 1:=by rw [rangeSize_one];split <;> omega
  show IsRangeIter _ _ (lo+((0:Nat):Int)*1) ((((hi - lo).toNat:Nat):Int) - ((0:Nat):Int)) 1
  rw [e1,e2];exact Heap.get?_push_size _ rfl
 ·have e:b=(s.heap.push {cls:=.type "range",data:=.fields #[.int lo t,.int hi u,.int 1 v]}).objs.size:=by simpa using hb
  subst e;exact I1.fpOk (Nat.le_refl _) (I1.hok.fresh (Nat.le_refl _))
def iRng1 (ta:TA):TI:=fun σ H R=>ta σ H fun vs H1=>∃ j:Int,vs=[.int j]/\-(2 ^ 62)<=j/\j < 2 ^ 62/\R (Itr 0 j.toNat) H1
theorem pi_range1 {a:Expr}{ta:TA}{p pos:Pos}(hg:Gl X "range")(hm:X.mg "range" = none)(ha:PA X [a] ta)(hs:starEach [a] X.env=[(false,eval a X.env)]:=by rfl):PI X tg (.Call (.Name "range" p) [a] [] pos) (iRng1 ta):=by
 intro pins s σ H R I h;refine Call_ (ld_blt I hg hm boot_range (PyProof.Rows.callWith_type1 (thn (ha pos pins s σ H _ I h) fun us s1 ⟨vs,H1,I1,r1,q1⟩=>?_) hs rfl))
 obtain⟨j,e,q1,q2,q⟩:=q1;subst e;cases r1 with
 | cons r rr =>
  cases rr;obtain⟨t,rfl⟩:=r;exact call_range_1 (range_it I1 (by omega) (by omega) q1 q2 (by simpa using q))
def tFor (wi:TI)(g:TG)(tb:TS):TS:=fun D σ H=>wi σ H fun J H1=>∃ W:Nat->Nat->St->Hp->Prop,(∃ m,W 0 m σ H1)/\∀ i m σ H,W i m σ H ->
 (J.stop i H/\D.nx σ H)\/(J.go i H/\∃ N:St->Hp->Prop,(∀ σ' H',N σ' H'->∃ m',m' < m/\W (i+1) m' σ' H')/\∀ x H',J.yld i H x H'->g x σ H' fun σ2 H2=>tb {D with nx:=N,ct:=N,bk:=D.nx} σ2 H2)
def pinsAt (fp:List Addr)(h:Heap):List (Addr×Obj):=fp.filterMap fun b=>(h.get? b).map fun o=>(b,o)
theorem mem_pinsAt {fp:List Addr}{h:Heap}{b:Addr}{o:Obj}(hb:b∈fp)(e:h.get? b=some o):(b,o)∈pinsAt fp h:=List.mem_filterMap.mpr ⟨b,hb,by rw [e];rfl⟩
theorem of_pinsAt {fp:List Addr}{h:Heap}{p:Addr×Obj}(hp:p∈pinsAt fp h):p.1∈fp/\h.get? p.1=some p.2:=by
 obtain⟨b,hb,e⟩:=List.mem_filterMap.mp hp;cases q:h.get? b with
 | none=>rw [q] at e;cases e
 | some o =>
  rw [q] at e;have e':(b,o)=p:=Option.some.inj e
  subst e';exact⟨hb,q⟩
theorem Inv.pinned {pins:List (Addr×Obj)}{σ:St}{H:Hp}{s:Shared}{fp:List Addr}(I:Inv X pins σ H s)(hf:∀ b∈fp,FpOk X pins H b)(ho:∀ b∈fp,∃ o,s.heap.get? b=some o/\∀ v,o.data≠.cell v):Inv X (pins++pinsAt fp s.heap) σ H s :=
 I.pins_of fun p hp=>(List.mem_append.mp hp).elim (fun z=>I.pin p (List.mem_append_right _ z)) fun z=>by
  obtain⟨hb,e⟩:=of_pinsAt z;obtain⟨f0,f1,f2,_⟩:=hf p.1 hb;obtain⟨o,e',d⟩:=ho p.1 hb;rw [e] at e';cases e';exact⟨e,f0,f1,f2,d⟩
theorem Inv.unpinned {pins pl:List (Addr×Obj)}{σ:St}{H:Hp}{s:Shared}(I:Inv X (pins++pl) σ H s):Inv X pins σ H s:=I.pins_of fun p hp=>I.pin p (List.mem_append_right _ (List.mem_append_left _ hp))
theorem ps_for {iter:Expr}{body:List Stmt}{wi:TI}{g:TG}{tb:TS}{pos:Pos}(hp:PassesOwn (model X.prog X.w) X.A X.env X.xe)(hc:X.calm=true)(hi:PI X tg iter wi)(hg:PG X tg g)(hb:PSs X body tb)
  (hs:∀ x,foldedSetIterable iter X.env x=pure x:=by intro _;rfl):PS X (.For tg iter body [] pos) (tFor wi g tb):=by
 intro pins s σ H D I h;refine wpAny_For (thn (hi pins s σ H _ I h) fun v s1 h1=>thn h1 fun itv s2 h2=>?_) hs
 obtain⟨it,fp,tn,J,H2,e,I2,T,st2,f2,W,⟨m0,w0⟩,turn⟩:=h2;subst e;have stat:∀ {H':Hp},(∀ b∈fp,H' b=none)->∀ b∈fp,FpOk X pins H' b:=fun hn b hb=>⟨hn b hb,(f2 b hb).2⟩
 refine codeAny_forLoop_any (fun n s'=>∃ i σ' H',Inv X pins σ' H' s'/\tn i s'.heap/\(∀ b∈fp,H' b=none)/\W i n σ' H') ?_ m0 ⟨0,σ,H2,I2,st2,fun b hb=>(f2 b hb).1,w0⟩
 rintro n s3 ⟨i,σ3,H3,I3,st3,fr3,w3⟩
 rcases turn i n σ3 H3 w3 with ⟨stop,qn⟩ | ⟨go,N,hN,step⟩
 ·refine wpAny_passesOwn hp (thn (T.done X rfl rfl rfl hc i pins s3 σ3 H3 X.xe I3 (stat fr3) st3 stop) fun r s4 ⟨hr,I4⟩=>?_)
  subst hr;exact wpAny_execs_nil ⟨σ3,H3,I4,qn⟩
 ·refine wpAny_passesOwn hp (thn (T.item X rfl rfl rfl hc i pins s3 σ3 H3 X.xe I3 (stat fr3) st3 go) fun r s4 ⟨u,hr,h4⟩=>?_)
  subst hr;refine wpAny_passesOwn hp (thn h4 fun _ s5 ⟨x,H5,I5,r5,y5,st5,fr5⟩=>?_)
  have I5':=I5.pinned (stat fr5) (T.obj _ _ st5);refine wpAny_passesOwn hp (thn (hg _ s5 σ3 H5 x u _ I5' r5 (step x H5 y5)) fun _ s6 ⟨σ6,H6,I6,q6⟩=>?_)
  refine wpAny_passesOwn hp (thn (hb _ s6 σ6 H6 _ I6 q6) fun f s7 q7=>?_)
  have again:∀ {σ7:St}{H7:Hp},Inv X (pins++pinsAt fp s5.heap) σ7 H7 s7->N σ7 H7->∃ m,m < n/\∃ i σ' H',Inv X pins σ' H' s7/\tn i s7.heap/\(∀ b∈fp,H' b=none)/\W i m σ' H':=fun {σ7 H7} I7 n7=>by
   obtain⟨m',hm,w7⟩:=hN σ7 H7 n7;refine⟨m',hm,i+1,σ7,H7,I7.unpinned,T.keep _ _ _ st5 fun b hb o e=>(I7.pin (b,o) (List.mem_append_right _ (List.mem_append_right _ (mem_pinsAt hb e)))).1,fun b hb=>?_,w7⟩
   obtain⟨o,e,d⟩:=T.obj _ _ st5 b hb;exact(I7.pin (b,o) (List.mem_append_right _ (List.mem_append_right _ (mem_pinsAt hb e)))).2.1
  cases f with
  | next=>obtain⟨σ7,H7,I7,n7⟩:=q7;exact again I7 n7
  | cont=>obtain⟨σ7,H7,I7,n7⟩:=q7;exact again I7 n7
  | brk=>obtain⟨σ7,H7,I7,q7⟩:=q7;exact⟨σ7,H7,I7.unpinned,q7⟩
  | ret v=>obtain⟨x7,σ7,H7,I7,r7,q7⟩:=q7;exact⟨x7,σ7,H7,I7.unpinned,r7,q7⟩
end
theorem for_list {K:W.Frag}{a:Addr}{xs:List V}{g:TG}{tb:TS}{D:Ends}{σ:St}{H:Hp}(Pv:Nat->St->Hp->Prop)(h0:Pv 0 σ H)(hl:∀ i σ H,i<=xs.length->Pv i σ H->SqL K H a xs)
  (hs:∀ i x σ H,xs[i]?=some x->Pv i σ H->g x σ H fun σ2 H2=>tb {D with nx:=Pv (i+1),ct:=Pv (i+1),bk:=D.nx} σ2 H2)(hd:∀ σ H,Pv xs.length σ H->D.nx σ H) :
  ∃ W:Nat->Nat->St->Hp->Prop,(∃ m,W 0 m σ H)/\∀ i m σ H,W i m σ H ->
   ((Itl K a).stop i H/\D.nx σ H)\/((Itl K a).go i H/\∃ N:St->Hp->Prop,(∀ σ' H',N σ' H'->∃ m',m' < m/\W (i+1) m' σ' H')/\∀ x H',(Itl K a).yld i H x H'->g x σ H' fun σ2 H2=>tb {D with nx:=N,ct:=N,bk:=D.nx} σ2 H2):=by
 refine⟨fun i m σ H=>m=xs.length - i/\i<=xs.length/\Pv i σ H,⟨xs.length,by simp,Nat.zero_le _,h0⟩,?_⟩
 rintro i m σ H ⟨rfl,hi,p⟩
 have q:=hl i σ H hi p;by_cases hlt:i < xs.length
 ·refine .inr ⟨⟨xs,xs[i],q,by simp [hlt]⟩,Pv (i+1),fun σ' H' p'=>⟨xs.length - (i+1),by omega,rfl,hlt,p'⟩,fun x H' y=>?_⟩
  obtain⟨e,y⟩:=y;subst e;exact hs i x σ _ (y xs q) p
 ·have e:i=xs.length:=by omega
  subst e;exact .inl ⟨⟨xs,q,Nat.le_refl _⟩,hd σ H p⟩
theorem for_tup {K:W.Frag}{a:Addr}{xs:List V}{g:TG}{tb:TS}{D:Ends}{σ:St}{H:Hp}(Pv:Nat->St->Hp->Prop)(h0:Pv 0 σ H)(hl:∀ i σ H,i<=xs.length->Pv i σ H->SqT K H a xs)
  (hs:∀ i x σ H,xs[i]?=some x->Pv i σ H->g x σ H fun σ2 H2=>tb {D with nx:=Pv (i+1),ct:=Pv (i+1),bk:=D.nx} σ2 H2)(hd:∀ σ H,Pv xs.length σ H->D.nx σ H) :
  ∃ W:Nat->Nat->St->Hp->Prop,(∃ m,W 0 m σ H)/\∀ i m σ H,W i m σ H ->
   ((Itt K a).stop i H/\D.nx σ H)\/((Itt K a).go i H/\∃ N:St->Hp->Prop,(∀ σ' H',N σ' H'->∃ m',m' < m/\W (i+1) m' σ' H')/\∀ x H',(Itt K a).yld i H x H'->g x σ H' fun σ2 H2=>tb {D with nx:=N,ct:=N,bk:=D.nx} σ2 H2):=by
 refine⟨fun i m σ H=>m=xs.length - i/\i<=xs.length/\Pv i σ H,⟨xs.length,by simp,Nat.zero_le _,h0⟩,?_⟩
 rintro i m σ H ⟨rfl,hi,p⟩
 have q:=hl i σ H hi p;by_cases hlt:i < xs.length
 ·refine .inr ⟨⟨xs,xs[i],q,by simp [hlt]⟩,Pv (i+1),fun σ' H' p'=>⟨xs.length - (i+1),by omega,rfl,hlt,p'⟩,fun x H' y=>?_⟩
  obtain⟨e,y⟩:=y;subst e;exact hs i x σ _ (y xs q) p
 ·have e:i=xs.length:=by omega
  subst e;exact .inl ⟨⟨xs,q,Nat.le_refl _⟩,hd σ H p⟩
end L2
namespace L2
open PySem PySem.Spec PyProof.Rows
abbrev R2:=V->V->Hp->VK->Prop
def OpR (X:Cx)(f:Value->Value->Sem Value)(r:R2):Prop :=
 ∀ (pins:List (Addr×Obj))(s:Shared)(σ:St)(H:Hp)(x y:V)(v u:Value)(Q:VK),Inv X pins σ H s->RelV x v->RelV y u->r x y H Q ->
  wpAny (model X.prog X.w) X.A (f v u) (EP X pins σ Q) X.xe s
def CallR (X:Cx)(f:Value)(r:List V->Hp->VK->Prop):Prop :=
 ∀ (pins:List (Addr×Obj))(s:Shared)(σ:St)(H:Hp)(xs:List V)(us:List Value)(Q:VK),Inv X pins σ H s->Vals xs us->r xs H Q ->
  wpAny (model X.prog X.w) X.A (call f us) (EP X pins σ Q) X.xe s
def tOp (r:R2)(ta tb:TE):TE:=fun σ H Q=>ta σ H fun x H1=>tb σ H1 fun y H2=>r x y H2 Q
def rI0 (g:Int->Int->V):R2:=fun x y H Q=>∃ i j,x=.int i/\y=.int j/\Q (g i j) H
section
variable {X:Cx}{a b c:Expr}{ta tb tc:TE}{pos:Pos}
theorem binT (ha:PE X a ta)(hb:PE X b tb){pins:List (Addr×Obj)}{s:Shared}{σ:St}{H:Hp}{R:V->V->Hp->Prop}(I:Inv X pins σ H s)
  (h:ta σ H fun x H1=>tb σ H1 fun y H2=>R x y H2){Q:Value->Shared->Prop}{f:Value->Value->Sem Value}
  (hf:∀ v u s2 x y H2,Inv X pins σ H2 s2->RelV x v->RelV y u->R x y H2->wpAny (model X.prog X.w) X.A (f v u) Q X.xe s2) :
  wpAny (model X.prog X.w) X.A (eval a X.env) (fun v s₁=>wpAny (model X.prog X.w) X.A (eval b X.env) (fun u s₂=>wpAny (model X.prog X.w) X.A (f v u) Q X.xe s₂) X.xe s₁) X.xe s:=by
 refine thn (ha pins s σ H _ I h) fun v s1 ⟨x,H1,I1,r1,q1⟩=>?_
 refine thn (hb pins s1 σ H1 _ I1 q1) fun u s2 ⟨y,H2,I2,r2,q2⟩=>?_
 exact hf v u s2 x y H2 I2 r1 r2 q2
theorem pe_op {op:Operator}{r:R2}(ho:OpR X (binaryOp op) r)(ha:PE X a ta)(hb:PE X b tb):PE X (.BinOp a op b pos) (tOp r ta tb):=by
 intro pins s σ H Q I h;exact wpAny_BinOp (binT ha hb I h fun v u s2 x y H2 I2 rx ry q=>ho pins s2 σ H2 x y v u Q I2 rx ry q)
theorem opI0 {f:Value->Value->Sem Value}{g:Int->Int->Int}
  (rule:∀ (i j:Int)(t u:Tok)(s:Shared)(Q:Value->Shared->Prop)(E:Value->Shared->Prop),Q (.int (g i j) s.toks) {s with toks:=s.toks+1}->wpAny (model X.prog X.w) X.A (f (.int i t) (.int j u)) Q E s) :
  OpR X f (rI0 fun i j=>.int (g i j)):=by
 intro pins s σ H x y v u Q I rx ry h;obtain⟨i,j,rfl,rfl,q⟩:=h;obtain⟨t,rfl⟩:=rx;obtain⟨t',rfl⟩:=ry;exact rule i j t t' s _ _ ⟨.int (g i j),H,I.tok _,⟨_,rfl⟩,q⟩
theorem opB0 {f:Value->Value->Sem Value}{g:Int->Int->Bool}
  (rule:∀ (i j:Int)(t u:Tok)(s:Shared)(Q:Value->Shared->Prop)(E:Value->Shared->Prop),Q (.bool (g i j)) s->wpAny (model X.prog X.w) X.A (f (.int i t) (.int j u)) Q E s) :
  OpR X f (rI0 fun i j=>.bl (g i j)):=by
 intro pins s σ H x y v u Q I rx ry h;obtain⟨i,j,rfl,rfl,q⟩:=h;obtain⟨t,rfl⟩:=rx;obtain⟨t',rfl⟩:=ry;exact rule i j t t' s _ _ ⟨.bl (g i j),H,I,rfl,q⟩
theorem op_add:OpR X (binaryOp .Add) (rI0 fun i j=>.int (i+j)):=opI0 fun _ _ _ _ _ _ _ q=>add_int q
theorem op_sub:OpR X (binaryOp .Sub) (rI0 fun i j=>.int (i - j)):=opI0 fun _ _ _ _ _ _ _ q=>sub_int q
end
def scal:V->V->Bool
 | .non,.non=>true | .non,.int _=>true | .int _,.non=>true | .non,.bl _=>true | .bl _,.non=>true | .non,.str _=>true | .str _,.non=>true
 | .int _,.int _=>true | .bl _,.bl _=>true | .str _,.str _=>true | .byt _,.byt _=>true
 | .int _,.str _=>true | .str _,.int _=>true | .bl _,.str _=>true | .str _,.bl _=>true
 | _,_=>false
def rEq:R2:=fun x y H Q=>scal x y=true/\Q (.bl (decide (x=y))) H
def rNe:R2:=fun x y H Q=>scal x y=true/\Q (.bl (!decide (x=y))) H
theorem dec_int {i j:Int}:decide (V.int i=V.int j)=(i==j):=by
 rw [Bool.eq_iff_iff];simp
theorem dec_bl {i j:Bool}:decide (V.bl i=V.bl j)=(i==j):=by
 rw [Bool.eq_iff_iff];simp
theorem dec_str {i j:Str}:decide (V.str i=V.str j)=(i==j):=by
 rw [Bool.eq_iff_iff];simp
theorem dec_byt {i j:Array UInt8}:decide (V.byt i=V.byt j)=(i.toList==j.toList):=by
 rw [Bool.eq_iff_iff];cases i;cases j;simp
section
variable {X:Cx}{a b c:Expr}{ta tb tc:TE}{pos:Pos}
theorem bH {pins:List (Addr×Obj)}{σ:St}{H:Hp}{s:Shared}{Q:VK}{k k':Bool}(I:Inv X pins σ H s)(q:Q (.bl k) H)(e:k=k'):EP X pins σ Q (.bool k') s:=by
 subst e;exact⟨.bl k,H,I,rfl,q⟩
theorem aM:OpR X (compareOp .Eq) rEq:=by
 intro pins s σ H x y v u Q I rx ry h;obtain⟨hs,q⟩:=h;cases x with
 | non =>
  cases rx;cases y with
  | non=>cases ry;exact PySem.EqNone.eq_none_none (bH I q (by simp))
  | bl j=>cases ry;exact PySem.EqNone.eq_none_bool (bH I q (by simp))
  | int j=>obtain⟨t',rfl⟩:=ry;exact PySem.EqNone.eq_none_int (bH I q (by simp))
  | str j=>obtain⟨t',rfl⟩:=ry;exact PySem.EqNone.eq_none_str (bH I q (by simp))
  | _=>exact absurd (show false=true from hs) Bool.false_ne_true
 | bl i =>
  cases rx;cases y with
  | non=>cases ry;exact PySem.EqNone.eq_bool_none (bH I q (by simp))
  | bl j=>cases ry;exact eq_bool (bH I q dec_bl)
  | str j=>obtain⟨t',rfl⟩:=ry;exact PySem.EqMixed.eq_bool_str (bH I q (by simp))
  | _=>exact absurd (show false=true from hs) Bool.false_ne_true
 | int i =>
  obtain⟨t,rfl⟩:=rx;cases y with
  | non=>cases ry;exact PySem.EqNone.eq_int_none (bH I q (by simp))
  | int j=>obtain⟨t',rfl⟩:=ry;exact eq_int (bH I q dec_int)
  | str j=>obtain⟨t',rfl⟩:=ry;exact PySem.EqMixed.eq_int_str (bH I q (by simp))
  | _=>exact absurd (show false=true from hs) Bool.false_ne_true
 | str i =>
  obtain⟨t,rfl⟩:=rx;cases y with
  | non=>cases ry;exact PySem.EqNone.eq_str_none (bH I q (by simp))
  | bl j=>cases ry;exact PySem.EqMixed.eq_str_bool (bH I q (by simp))
  | int j=>obtain⟨t',rfl⟩:=ry;exact PySem.EqMixed.eq_str_int (bH I q (by simp))
  | str j=>obtain⟨t',rfl⟩:=ry;exact eq_str (bH I q dec_str)
  | _=>exact absurd (show false=true from hs) Bool.false_ne_true
 | byt i =>
  obtain⟨t,rfl⟩:=rx;cases y with
  | byt j=>obtain⟨t',rfl⟩:=ry;exact W.eq_bytes (bH I q dec_byt)
  | _=>exact absurd (show false=true from hs) Bool.false_ne_true
 | _=>cases y <;> exact absurd (show false=true from hs) Bool.false_ne_true
theorem op_ne:OpR X (compareOp .NotEq) rNe:=by
 intro pins s σ H x y v u Q I rx ry h;obtain⟨hs,q⟩:=h;cases x with
 | non =>
  cases rx;cases y with
  | non=>cases ry;exact PySem.EqNone.ne_none_none (bH I q (by simp))
  | bl j=>cases ry;exact PySem.EqNone.ne_none_bool (bH I q (by simp))
  | int j=>obtain⟨t',rfl⟩:=ry;exact PySem.EqNone.ne_none_int (bH I q (by simp))
  | str j=>obtain⟨t',rfl⟩:=ry;exact PySem.EqNone.ne_none_str (bH I q (by simp))
  | _=>exact absurd (show false=true from hs) Bool.false_ne_true
 | bl i =>
  cases rx;cases y with
  | non=>cases ry;exact PySem.EqNone.ne_bool_none (bH I q (by simp))
  | bl j=>cases ry;exact ne_bool (bH I q (congrArg not dec_bl))
  | str j=>obtain⟨t',rfl⟩:=ry;exact PySem.EqMixed.ne_bool_str (bH I q (by simp))
  | _=>exact absurd (show false=true from hs) Bool.false_ne_true
 | int i =>
  obtain⟨t,rfl⟩:=rx;cases y with
  | non=>cases ry;exact PySem.EqNone.ne_int_none (bH I q (by simp))
  | int j=>obtain⟨t',rfl⟩:=ry;exact ne_int (bH I q (congrArg not dec_int))
  | str j=>obtain⟨t',rfl⟩:=ry;exact PySem.EqMixed.ne_int_str (bH I q (by simp))
  | _=>exact absurd (show false=true from hs) Bool.false_ne_true
 | str i =>
  obtain⟨t,rfl⟩:=rx;cases y with
  | non=>cases ry;exact PySem.EqNone.ne_str_none (bH I q (by simp))
  | bl j=>cases ry;exact PySem.EqMixed.ne_str_bool (bH I q (by simp))
  | int j=>obtain⟨t',rfl⟩:=ry;exact PySem.EqMixed.ne_str_int (bH I q (by simp))
  | str j=>obtain⟨t',rfl⟩:=ry;exact ne_str (bH I q (congrArg not dec_str))
  | _=>exact absurd (show false=true from hs) Bool.false_ne_true
 | byt i =>
  obtain⟨t,rfl⟩:=rx;cases y with
  | byt j=>obtain⟨t',rfl⟩:=ry;exact W.ne_bytes (bH I q (congrArg not dec_byt))
  | _=>exact absurd (show false=true from hs) Bool.false_ne_true
 | _=>cases y <;> exact absurd (show false=true from hs) Bool.false_ne_true
theorem op_lt:OpR X (compareOp .Lt) (rI0 fun i j=>.bl (decide (i < j))):=opB0 fun _ _ _ _ _ _ _ q=>lt_int q
theorem hU:OpR X (compareOp .LtE) (rI0 fun i j=>.bl (decide (i<=j))):=opB0 fun _ _ _ _ _ _ _ q=>le_int q
theorem op_gt:OpR X (compareOp .Gt) (rI0 fun i j=>.bl (decide (j < i))):=opB0 fun _ _ _ _ _ _ _ q=>gt_int q
theorem nMk (b:Expr){op:CmpOp}(h:op≠.In:=by decide)(h2:op≠.NotIn:=by decide):behindInMarks op b=false:=by
 have e1:(op==CmpOp.In)=false:=by cases op <;> first | rfl | exact absurd rfl h
 have e2:(op==CmpOp.NotIn)=false:=by cases op <;> first | rfl | exact absurd rfl h2
 cases b <;> simp [behindInMarks,e1,e2]
theorem eB {op:CmpOp}{r:R2}(ho:OpR X (compareOp op) r)(ha:PE X a ta)(hb:PE X b tb)(hm:behindInMarks op b=false):PE X (.Compare a [op] [b] pos) (tOp r ta tb):=by
 intro pins s σ H Q I h;exact wpAny_Compare1 (binT ha hb I h fun v u s2 x y H2 I2 rx ry q=>ho pins s2 σ H2 x y v u Q I2 rx ry q) hm
def tTest (t:TE):TT:=fun σ H Q=>t σ H fun x H'=>∃ k,x=.bl k/\Q k H'
theorem tR {op:CmpOp}{r:R2}(ho:OpR X (compareOp op) r)(ha:PE X a ta)(hb:PE X b tb)(hm:behindInMarks op b=false):PT X (.Compare a [op] [b] pos) (tTest (tOp r ta tb)):=by
 intro pins s σ H Q I h
 refine wpAny_isTrue_Compare1 (thn (ha pins s σ H _ I h) fun v s1 ⟨x,H1,I1,r1,q1⟩=>thn (hb pins s1 σ H1 _ I1 q1) fun u s2 ⟨y,H2,I2,r2,q2⟩ =>
  thn (ho pins s2 σ H2 x y v u _ I2 r1 r2 q2) fun c s3 ⟨z,H3,I3,r3,k,e,q3⟩=>?_) hm
 subst e;cases r3;exact wpAny_truthy_bool ⟨H3,I3,q3⟩
def tChain (r r':R2)(ta tb tc:TE):TE:=fun σ H Q=>ta σ H fun x H1=>tb σ H1 fun y H2=>r x y H2 fun z H3=>∃ k,z=.bl k /\
 (if k=true then tc σ H3 fun w' H4=>r' y w' H4 Q else Q (.bl false) H3)
theorem hJ {op op':CmpOp}{r r':R2}(ho:OpR X (compareOp op) r)(ho':OpR X (compareOp op') r')(ha:PE X a ta)(hb:PE X b tb)(hc:PE X c tc)
  (hm:lastMarks [op,op'] [b,c]=false:=by with_unfolding_all rfl):PE X (.Compare a [op,op'] [b,c] pos) (tChain r r' ta tb tc):=by
 intro pins s σ H Q I h
 refine Compare_chain (thn (ha pins s σ H _ I h) fun v s1 ⟨x,H1,I1,r1,q1⟩=>chain_link (thn (hb pins s1 σ H1 _ I1 q1) fun u s2 ⟨y,H2,I2,r2,q2⟩ =>
  thn (ho pins s2 σ H2 x y v u _ I2 r1 r2 q2) fun d s3 ⟨z,H3,I3,r3,k,e,q3⟩=>?_)) hm
 subst e;cases r3;refine wpAny_truthy_bool ?_
 cases k with
 | false=>exact ite_ff ⟨.bl false,H3,I3,rfl,q3⟩
 | true=>exact ite_tt (chain_last (thn (hc pins s3 σ H3 _ I3 q3) fun w' s4 ⟨z',H4,I4,r4,q4⟩=>ho' pins s4 σ H4 y z' u w' Q I4 r2 r4 q4))
theorem pt_chain {op op':CmpOp}{r r':R2}(ho:OpR X (compareOp op) r)(ho':OpR X (compareOp op') r')(ha:PE X a ta)(hb:PE X b tb)(hc:PE X c tc)
  (hm:lastMarks [op,op'] [b,c]=false:=by with_unfolding_all rfl):PT X (.Compare a [op,op'] [b,c] pos) (tTest (tChain r r' ta tb tc)):=by
 intro pins s σ H Q I h
 refine isTrue_chain (thn (ha pins s σ H _ I h) fun v s1 ⟨x,H1,I1,r1,q1⟩=>test_link (thn (hb pins s1 σ H1 _ I1 q1) fun u s2 ⟨y,H2,I2,r2,q2⟩ =>
  thn (ho pins s2 σ H2 x y v u _ I2 r1 r2 q2) fun d s3 ⟨z,H3,I3,r3,k,e,q3⟩=>?_)) hm
 subst e;cases r3;refine wpAny_truthy_bool ?_
 cases k with
 | false =>
  obtain⟨k',e',q'⟩:=q3;cases e';exact ite_ff ⟨H3,I3,q'⟩
 | true =>
  refine ite_tt (test_last (thn (hc pins s3 σ H3 _ I3 q3) fun w' s4 ⟨z',H4,I4,r4,q4⟩=>thn (ho' pins s4 σ H4 y z' u w' _ I4 r2 r4 q4) fun d' s5 ⟨z2,H5,I5,r5,k2,e2,q5⟩=>?_))
  subst e2;cases r5;exact wpAny_truthy_bool ⟨H5,I5,q5⟩
theorem line63:(sizeLine:Nat) < 2 ^ 63:=by rw [sizeLine_eq];decide
theorem vals1 {x:V}{us:List Value}(r:Vals [x] us):∃ u,us=[u]/\RelV x u:=by
 cases r with
 | cons r1 r2=>cases r2;exact⟨_,rfl,r1⟩
theorem vals2 {x y:V}{us:List Value}(r:Vals [x,y] us):∃ u w',us=[u,w']/\RelV x u/\RelV y w':=by
 cases r with
 | cons r1 r2 =>
  cases r2 with
  | cons r3 r4=>cases r4;exact⟨_,_,rfl,r1,r3⟩
theorem call_max2 (hc:X.calm=true):CallR X (.builtin "max") (fun xs H Q=>∃ i j,xs=[.int i,.int j]/\Q (.int (if j > i then j else i)) H):=by
 intro pins s σ H xs us Q I r h;obtain⟨i,j,rfl,q⟩:=h;obtain⟨u,w',rfl,⟨t,rfl⟩,⟨t',rfl⟩⟩:=vals2 r;refine max_two_ints (I.ok.hd hc) fun h' tk k=>⟨_,H,I.kept k,?_,q⟩
 by_cases hj:j > i
 ·rw [if_pos hj,if_pos hj];exact⟨_,rfl⟩
 ·rw [if_neg hj,if_neg hj];exact⟨_,rfl⟩
theorem call_min2 (hc:X.calm=true):CallR X (.builtin "min") (fun xs H Q=>∃ i j,xs=[.int i,.int j]/\Q (.int (if j < i then j else i)) H):=by
 intro pins s σ H xs us Q I r h;obtain⟨i,j,rfl,q⟩:=h;obtain⟨u,w',rfl,⟨t,rfl⟩,⟨t',rfl⟩⟩:=vals2 r;refine min_two_ints (I.ok.hd hc) fun h' tk k=>⟨_,H,I.kept k,?_,q⟩
 by_cases hj:j < i
 ·rw [if_pos hj,if_pos hj];exact⟨_,rfl⟩
 ·rw [if_neg hj,if_neg hj];exact⟨_,rfl⟩
theorem call_ord:CallR X (.builtin "ord") (fun xs H Q=>∃ x,xs=[.str x]/\x.length=1/\Q (.int (x.cps.getD 0 0:Nat)) H):=by
 intro pins s σ H xs us Q I r h;obtain⟨x,rfl,hz,q⟩:=h;obtain⟨u,rfl,t,rfl⟩:=vals1 r;exact ord_of_one hz ⟨.int _,H,I.tok _,⟨_,rfl⟩,q⟩
end
end L2
namespace L2
open PySem PySem.Spec PyProof.Rows
structure ObjM (h:Heap)(x dx C:Addr)(mA:Str->Option Value):Prop where
 obj:h.get? x=some (W.instObj C dx)
 ns:h.Ns1 dx mA
 ne:dx≠x
theorem lookIn_ns {h:Heap}{dx:Addr}{mA:Str->Option Value}(n:h.Ns1 dx mA):∃ od,h.get? dx=some od/\∀ name,W.lookIn name od=some (mA name):=by
 obtain⟨o,es,ep,ho,hd,hk,_,hm⟩:=n;refine⟨o,ho,fun name=>?_⟩
 have e:=hm name;unfold nsFind findBy at e;rw [<-Array.find?_toList] at e;unfold W.lookIn;rw [hd];dsimp only;split
 ·rename_i y q
  rw [q] at e;exact congrArg some e
 ·rename_i q
  rw [q] at e
  have a:es.toList.any (·.refKey)=false:=by
   rw [List.any_eq_false];intro y hy;obtain⟨z,t,hkey⟩:=hk y (Array.mem_toList_iff.mp hy);simp [DictEntry.refKey,hkey]
  have a':¬ es.toList.any (·.refKey)=true:=by rw [a];exact Bool.false_ne_true
  rw [if_neg a'];exact congrArg some e
theorem ObjM.look {h:Heap}{x dx C:Addr}{mA:Str->Option Value}(I:ObjM h x dx C mA):∃ od,W.InstAt h x (W.instObj C dx) C (some od)/\∀ name,W.lookIn name od=some (mA name) :=
 let ⟨od,ho,hl⟩:=lookIn_ns I.ns
 ⟨od,⟨I.obj,rfl,rfl,ho⟩,hl⟩
section
variable {prog:Program}{w:World}{A:Around}{E:Value->Shared->Prop}{s:Shared}{K:W.Frag}{x dx C f:Addr}{mA:Str->Option Value}{name:Str}{v:Value}
theorem get_map {expr:Bool}{Q:Value->Shared->Prop}(X:K.In s.heap)(I:ObjM s.heap x dx C mA)(hg:W.plainGet K C name=true)(hh:W.hasDictIn K C=true)
  (ha:W.findIn K (.ref C) name=some none)(hv:mA name=some v)(hv':W.handedIn v=true)(h:Q v {s with toks:=s.toks+1}) :
  wpAny (model prog w) A (getAttr (.ref x) name expr) Q E s:=by
 obtain⟨od,J,hl⟩:=I.look;exact W.get_value X J (W.plainGet_of hg).1 (W.findObj_own hh ha rfl (by rw [hl,hv])) hv' h
theorem get_meth {pl:Sem Bool}{Q:Value×List Value->Shared->Prop}(X:K.In s.heap)(I:ObjM s.heap x dx C mA)(hg:W.plainGet K C name=true)
  (hf:W.findIn K (.ref C) name=some (some (.ref f)))(ht:W.isFn K (.ref f)=true)(hv:mA name=none)(h:Q (.ref f,[.ref x]) s) :
  wpAny (model prog w) A (getMethod (.ref x) name pl) Q E s:=by
 obtain⟨od,J,hl⟩:=I.look;exact W.method_fn X J (W.plainGet_of hg).1 (W.plainGet_of hg).2 hf (beq_iff_eq.mp ht) (by show(W.lookIn name od).map (·.isSome)=some false;rw [hl,hv];rfl) h
theorem set_map {ns:List Str}{Q:Unit->Shared->Prop}(X:K.In s.heap)(I:ObjM s.heap x dx C mA)
  (hs:W.findIn K (.ref C) "__setattr__" = some (some (.builtin "object.__setattr__")))(hp:W.plainOver K C=true)(ht:W.takerIn K C name=some none)(hh:W.hasDictIn K C=true)
  (hw:PySem.Within mA ns)(hsz:ns.length<=sizeLine)
  (h:∀ h',ObjM h' x dx C (fun y=>if y=name then some v else mA y)->Heap.SameBut dx s.heap h'->Q () {s with heap:=h',toks:=s.toks+2}) :
  wpAny (model prog w) A (setAttr (.ref x) name v) Q E s:=by
 obtain⟨od,J,hl⟩:=I.look;refine W.set_plain X J hs (W.osa_open (s:={s with toks:=s.toks+1}) (r:=none) X J hp ht fun b=>?_)
 obtain⟨cd,hc,hd'⟩:=W.any_some hh;have hx:s.heap.get? x=some ⟨.ref C,some dx,.plain,#[]⟩:=I.obj
 refine wpAny_bind (wpAny_pure (wpAny_bind (wpAny_bind (wpAny_loadPart hx (wpAny_bind (W.Looks.here (s:={s with toks:=s.toks+1}) (W.looks_clsIn X hc) ?_))))))
 rw [hd'];refine wpAny_pure (a:=some dx) (wpAny_bind (wpAny_pure (wpAny_bind ?_)))
 refine wpAny_nsSet1 (s:={s with toks:=s.toks+1}) I.ns fun h' hn2 hs2=>?_
 obtain⟨oD,esD,epD,hoD,hdD,hcD⟩:=hn2.count (PySem.Within.cons name v hw);refine wpAny_bind (wpAny_lookBehind hoD (by rw [hdD];exact pastItsLine_dict (Nat.le_trans hcD (by rw [List.length_cons];omega))) ?_)
 exact wpAny_pure (h _ ⟨(hs2.2 _ (Ne.symm I.ne)).trans I.obj,hn2,I.ne⟩ hs2)
theorem make_map {R:Result->Shared->Prop}{vs:List Value}{kw:List (Str×Value)}(X:K.In s.heap)(hm:W.makesIn K C=true)
  (hi:W.findIn K (.ref C) "__init__" = some (some (.ref f)))(hf:W.typeIn K (.ref f)=some (.type "function"))
  (h:codeAny (model prog w) (A.under (.builtin "type.__call__" ⟨.ref C::vs,kw⟩)) (.call (.ref f) ⟨.ref (s.heap.objs.size+1)::vs,kw⟩) (W.InitBack (s.heap.objs.size+1) R)
   {s with heap:=(s.heap.push W.emptyDict).push (W.instObj C s.heap.objs.size)}) :
  codeAny (model prog w) A (.call (.ref C) ⟨vs,kw⟩) R s:=by
 obtain⟨hh,g,d,t,os⟩:=s;exact W.make_core (W.makes_of X hm) (W.looks_findIn X hi) (fun self=>W.bind_fn X self hf) (.inl rfl) h
end
def bK (f:Str)(v:V):List (Str×V)->List (Str×V)
 | []=>[(f,v)]
 | (g,x)::r=>if g=f then(g,v)::r else(g,x)::bK f v r
theorem lookup_putF (f g:Str)(v:V):∀ fs:List (Str×V),(bK f v fs).lookup g=if g=f then some v else fs.lookup g
 | []=>by
  show List.lookup g [(f,v)]=_
  by_cases h:g=f
  ·have hb:(g==f)=true:=beq_iff_eq.mpr h
   simp only [List.lookup,hb,if_pos h]
  ·have hb:(g==f)=false:=beq_eq_false_iff_ne.mpr h
   simp only [List.lookup,hb,if_neg h]
 | (k,x)::r=>by
  have ih:=lookup_putF f g v r;rw [show bK f v ((k,x)::r)=(if k=f then(k,v)::r else(k,x)::bK f v r) from rfl]
  by_cases hk:k=f
  ·rw [if_pos hk];by_cases h:g=k
   ·have hb:(g==k)=true:=beq_iff_eq.mpr h
    simp only [List.lookup,hb,if_pos (h.trans hk)]
   ·have hb:(g==k)=false:=beq_eq_false_iff_ne.mpr h
    simp only [List.lookup,hb,if_neg (fun e:g=f=>h (e.trans hk.symm))]
  ·rw [if_neg hk];by_cases h:g=k
   ·have hb:(g==k)=true:=beq_iff_eq.mpr h
    simp only [List.lookup,hb,if_neg (fun e:g=f=>hk (h.symm.trans e))]
   ·have hb:(g==k)=false:=beq_eq_false_iff_ne.mpr h
    simp only [List.lookup,hb];exact ih
theorem keys_putF (f:Str)(v:V):∀ fs:List (Str×V),f∈(bK f v fs).map (·.1)/\∀ g,g∈fs.map (·.1)->g∈(bK f v fs).map (·.1)
 | []=>⟨by simp [bK],fun g h=>by simp at h⟩
 | (k,x)::r=>by
  obtain⟨i1,i2⟩:=keys_putF f v r;rw [show bK f v ((k,x)::r)=(if k=f then(k,v)::r else(k,x)::bK f v r) from rfl]
  by_cases hk:k=f
  ·rw [if_pos hk];subst hk;exact⟨by simp,fun g h=>by simpa using h⟩
  ·rw [if_neg hk];refine⟨?_,fun g h=>?_⟩
   ·rw [List.map_cons];exact List.mem_cons_of_mem _ i1
   ·rw [List.map_cons] at h ⊢;rcases List.mem_cons.mp h with e | e
    ·exact List.mem_cons.mpr (.inl e)
    ·exact List.mem_cons_of_mem _ (i2 g e)
theorem length_putF (f:Str)(v:V):∀ fs:List (Str×V),(bK f v fs).length<=fs.length+1
 | []=>by simp [bK]
 | (k,x)::r=>by
  have ih:=length_putF f v r;rw [show bK f v ((k,x)::r)=(if k=f then(k,v)::r else(k,x)::bK f v r) from rfl]
  by_cases hk:k=f
  ·rw [if_pos hk,List.length_cons,List.length_cons];omega
  ·rw [if_neg hk,List.length_cons,List.length_cons];omega
theorem RelO.some_of {v:V}{o:Option Value}(r:RelO (some v) o):∃ u,o=some u/\RelV v u:=by
 cases o with
 | none=>exact(show False from r).elim
 | some u=>exact⟨u,rfl,r⟩
theorem RelO.none_of {o:Option Value}(r:RelO none o):o=none:=by
 cases o with
 | none=>rfl
 | some u=>exact(show False from r).elim
theorem handed_of {v:V}{u:Value}(r:RelV v u):W.handedIn u=true:=by
 cases v with
 | non=>cases (show u=Value.none from r);rfl
 | bl b=>cases (show u=Value.bool b from r);rfl
 | int i=>obtain⟨t,e⟩:=(show ∃ t,u=Value.int i t from r);cases e;rfl
 | str x=>obtain⟨t,e⟩:=(show ∃ t,u=Value.str x t from r);cases e;rfl
 | byt b=>obtain⟨t,e⟩:=(show ∃ t,u=Value.bytes b t from r);cases e;rfl
 | flt b=>obtain⟨t,e⟩:=(show ∃ t,u=Value.float b t from r);cases e;rfl
 | ref a=>cases (show u=Value.ref a from r);rfl
 | ty n=>cases (show u=Value.type n from r);rfl
section
variable {P:Program}{w:World}{H H':Hp}{h h':Heap}{a C dx:Addr}{fs fs':List (Str×V)}
theorem ins_get (hok:HOk P w H h)(e:H a=some (.ins C dx fs)):∃ mA,ObjM h a dx C mA/\(∀ f,RelO (fs.lookup f) (mA f))/\PySem.Within mA (fs.map (·.1))/\fs.length<=1000/\H dx=some (.own a):=by
 obtain⟨d,z,ne,ob,mA,n,r,q⟩:=(show ObjOk P w H h a (.ins C dx fs) from hok a _ e)
 exact⟨mA,⟨ob,n,ne⟩,r,q,z,d⟩
end
structure Cls (K:W.Frag)(C:Addr):Prop where
 pg:W.plainGet K C Str.empty=true
 hd:W.hasDictIn K C=true
 po:W.plainOver K C=true
 sa:W.findIn K (.ref C) "__setattr__" = some (some (.builtin "object.__setattr__"))
theorem Cls.get {K:W.Frag}{C:Addr}(c:Cls K C)(f:Str):W.plainGet K C f=true:=c.pg
def NoAttr (K:W.Frag)(C:Addr)(f:Str):Prop:=W.findIn K (.ref C) f=some none
theorem NoAttr.taker {K:W.Frag}{C:Addr}{f:Str}(n:NoAttr K C f):W.takerIn K C f=some none:=by
 unfold W.takerIn;rw [show W.findIn K (.ref C) f=some none from n]
 rfl
structure Meth (K:W.Frag)(C:Addr)(m:Str)(f:Addr):Prop where
 at_:W.findIn K (.ref C) m=some (some (.ref f))
 fn:W.isFn K (.ref f)=true
 kp:W.keepIn K (.ref f)=true
section
variable {X:Cx}{pins:List (Addr×Obj)}{σ:St}{H:Hp}{s:Shared}{a C dx:Addr}{fs:List (Str×V)}{f:Str}{v:V}{A:Around}{E:Value->Shared->Prop}
theorem getattr_ok {b:Bool}{Q:Value->Shared->Prop}(I:Inv X pins σ H s)(e:H a=some (.ins C dx fs))(c:Cls X.K C)(n:NoAttr X.K C f)(l:fs.lookup f=some v)
  (h:∀ u s',Inv X pins σ H s'->RelV v u->Q u s'):wpAny (model X.prog X.w) A (getAttr (.ref a) f b) Q E s:=by
 obtain⟨mA,O,r,_,_,_⟩:=ins_get I.hok e;obtain⟨u,hu,ru⟩:=RelO.some_of (v:=v) (o:=mA f) (by rw [<-l];exact r f)
 exact get_map I.kIn O (c.get f) c.hd n hu (handed_of ru) (h u _ (I.tok _) ru)
theorem getmeth_ok {m:Str}{g:Addr}{pl:Sem Bool}{Q:Value×List Value->Shared->Prop}(I:Inv X pins σ H s)(e:H a=some (.ins C dx fs))(c:Cls X.K C)(k:Meth X.K C m g)(l:fs.lookup m=none)
  (h:Q (.ref g,[.ref a]) s):wpAny (model X.prog X.w) A (getMethod (.ref a) m pl) Q E s:=by
 obtain⟨mA,O,r,_,_,_⟩:=ins_get I.hok e;have hn:mA m=none:=RelO.none_of (by rw [<-l];exact r m)
 exact get_meth I.kIn O (c.get m) k.at_ k.fn hn h
theorem setattr_ok {y:V}{u:Value}{Q:Unit->Shared->Prop}(I:Inv X pins σ H s)(e:H a=some (.ins C dx fs))(c:Cls X.K C)(n:NoAttr X.K C f)(hl:fs.length < 1000)(ry:RelV y u)
  (h:∀ s',Inv X pins σ (upd H a (.ins C dx (bK f y fs))) s'->Q () s'):wpAny (model X.prog X.w) A (setAttr (.ref a) f u) Q E s:=by
 obtain⟨mA,O,r,wi,_,ho⟩:=ins_get I.hok e;have hz:(fs.map (·.1)).length<=sizeLine:=by rw [List.length_map,sizeLine_eq];omega
 refine set_map I.kIn O c.sa c.po n.taker c.hd wi hz fun h' O' sb=>h _ ?_
 have hd:∃ o,h'.get? dx=some o:=let ⟨o,_,_,e',_⟩:=O'.ns;⟨o,e'⟩
 refine I.write (x:=a) (e:=dx) (by rw [e];exact True.intro) (.inr ho) (fun b q hb z=>(sb.2 b hb).trans z) hd ?_
 refine⟨by rw [uN O.ne];exact ho,?_,O.ne,O'.obj,_,O'.ns,fun g=>?_,fun g hg=>?_⟩
 ·have:=length_putF f y fs;omega
 ·show RelO ((bK f y fs).lookup g) (if g=f then some u else mA g)
  rw [lookup_putF];by_cases q:g=f
  ·rw [if_pos q,if_pos q];exact ry
  ·rw [if_neg q,if_neg q];exact r g
 ·by_cases q:g=f
  ·rw [q];exact(keys_putF f y fs).1
  ·refine(keys_putF f y fs).2 g (wi g fun z=>hg ?_)
   show(if g=f then some u else mA g)=none
   rw [if_neg q];exact z
theorem Inv.made (I:Inv X pins σ H s):Inv X pins σ (upd (upd H s.heap.objs.size (.own (s.heap.objs.size+1))) (s.heap.objs.size+1) (.ins C s.heap.objs.size []))
  {s with heap:=(s.heap.push W.emptyDict).push (W.instObj C s.heap.objs.size)}:=by
 have e1:(s.heap.push W.emptyDict).get? s.heap.objs.size=some W.emptyDict:=Heap.get?_push_size s.heap rfl
 have e2:((s.heap.push W.emptyDict).push (W.instObj C s.heap.objs.size)).get? (s.heap.objs.size+1)=some (W.instObj C s.heap.objs.size):=by
  have:=Heap.get?_push_size (s.heap.push W.emptyDict) (o:=W.instObj C s.heap.objs.size) rfl
  rwa [Heap.size_push] at this
 have e3:(s.heap.push W.emptyDict).Ns s.heap.objs.size (fun _=>none):=⟨W.emptyDict,#[],_,e1,rfl,(fun e he=>absurd he (by simp)),fun _=>rfl⟩
 have I1:=I.laid (a:=s.heap.objs.size) (o:=.own (s.heap.objs.size+1)) (h':=s.heap.push W.emptyDict) (t':=s.toks) (fun b u q=>Heap.get?_push_of_some _ q) (Nat.le_refl _) ⟨_,e1⟩
 refine I1.laid (a:=s.heap.objs.size+1) (o:=.ins C s.heap.objs.size []) (t':=s.toks) (fun b u q=>Heap.get?_push_of_some _ q) (Nat.le_of_eq (Heap.size_push _ _)) ?_
 have ne:s.heap.objs.size≠s.heap.objs.size+1:=Nat.ne_of_lt (Nat.lt_succ_self _)
 refine⟨by rw [uN ne,uS],Nat.zero_le _,ne,e2,fun _=>none,(Heap.Ns1.of_empty e3).at fun o q=>Heap.get?_push_of_some _ q,fun _=>True.intro,fun y hy=>absurd rfl hy⟩
theorem attr_of {prog:Program}{w:World}{env:Env}{e:Expr}{f:Str}{pos:Pos}{s:Shared}{Q:Value->Shared->Prop}(hb:attributeBase e f env (eval e env)=eval e env)
  (h:wpAny (model prog w) A (eval e env) (fun o s₁=>wpAny (model prog w) A (getAttr o f true) Q E s₁) E s):wpAny (model prog w) A (eval (.Attribute e f pos) env) Q E s :=
 Attribute_any_ h (by rw [arm_eval_Attribute,hb])
end
def tFld (K:W.Frag)(ta:TE)(f:Str):TE:=fun σ H Q=>ta σ H fun x H1=>∃ a C dx fs v,x=.ref a/\H1 a=some (.ins C dx fs)/\Cls K C/\NoAttr K C f/\fs.lookup f=some v/\Q v H1
def sFld (K:W.Frag)(ta tv:TE)(f:Str):TS:=fun D σ H=>tv σ H fun y H1=>ta σ H1 fun x H2=>∃ a C dx fs,x=.ref a/\H2 a=some (.ins C dx fs)/\Cls K C/\NoAttr K C f/\fs.length < 1000 /\
 D.nx σ (upd H2 a (.ins C dx (bK f y fs)))
section
variable {X:Cx}{o e value:Expr}{f:Str}{pos pos' tpos:Pos}{ta tv:TE}
theorem eF (he:PE X e ta)(hb:attributeBase e f X.env (eval e X.env)=eval e X.env):PE X (.Attribute e f pos) (tFld X.K ta f):=by
 intro pins s σ H Q I h;refine attr_of hb (thn (he pins s σ H _ I h) fun u s1 ⟨x,H1,I1,rx,a,C,dx,fs,v,ex,ea,c,n,l,q⟩=>?_)
 subst ex;obtain rfl:u=Value.ref a:=rx
 exact getattr_ok I1 ea c n l fun u' s2 I2 ru=>⟨v,H1,I2,ru,q⟩
theorem cH (ha:PE X o ta)(hv:PE X value tv)(hs:swapsWith value (some (.Attribute o f pos')) pos.line X.env=pure false):PS X (.Assign [.Attribute o f pos'] value pos) (sFld X.K ta tv f):=by
 intro pins s σ H D I h;refine plainObj_wpAny_Assign_Attribute (thn (hv pins s σ H _ I h) fun u s1 ⟨y,H1,I1,ry,q⟩=>thn (ha pins s1 σ H1 _ I1 q) fun ov s2 ⟨x,H2,I2,rx,a,C,dx,fs,ex,ea,c,n,l,q2⟩=>?_) hs
 subst ex;obtain rfl:ov=Value.ref a:=rx
 exact setattr_ok I2 ea c n l ry fun s3 I3=>⟨σ,_,I3,q2⟩
theorem methcall_of {pl:Sem Bool}{m:Str}{apos:Pos}{args:List Expr}{pins:List (Addr×Obj)}{s:Shared}{σ:St}{H:Hp}{Q:Value->Shared->Prop}{te:TE}(he:PE X e te)(I:Inv X pins σ H s)
  (h:te σ H fun x H1=>∃ a C dx fs g,x=.ref a/\H1 a=some (.ins C dx fs)/\Cls X.K C/\Meth X.K C m g/\fs.lookup m=none /\
   ∀ s1,Inv X pins σ H1 s1->wpAny (model X.prog X.w) X.A (callWith pos (.ref g) [.ref a] (backTo pos (starEach args X.env)) (backToKw pos (keywordEach [] X.env))) Q X.xe s1)
  (ht:eval (.Call (.Attribute e m apos) args [] pos) X.env=(do
   let ov <-eval e X.env
   standAt apos.atName
   let (f,first) <-holding [ov] (getMethod ov m pl)
   callWith pos f first (backTo pos (starEach args X.env)) (backToKw pos (keywordEach [] X.env)))) :
  wpAny (model X.prog X.w) X.A (eval (.Call (.Attribute e m apos) args [] pos) X.env) Q X.xe s:=by
 refine W.methodCall_KW (pl:=pl) (thn (he pins s σ H _ I h) fun u s1 ⟨x,H1,I1,rx,a,C,dx,fs,g,ex,ea,c,k,l,q⟩=>?_) ht
 subst ex;obtain rfl:u=Value.ref a:=rx
 exact getmeth_ok I1 ea c k l (q s1 I1)
end
end L2
namespace L2
open PySem PySem.Spec PyProof.Rows
structure Room (k:Nat)(A:Around):Prop where
 hd:A.handled=none
 dp:A.depth+3*k+5 < recursionLimit
 un:A.units+16*k+200 < cLine
theorem Room.mono {j k:Nat}{A:Around}(r:Room k A)(h:j<=k):Room j A:=⟨r.hd,by have:=r.dp;omega,by have:=r.un;omega⟩
theorem Room.deeper {k:Nat}{A:Around}(r:Room (k+1) A)(env:Env):Room k (A.deeper env) :=
 ⟨r.hd,by have:=r.dp;show A.depth+1+3*k+5 < _;omega,by have:=r.un;show A.units+3+16*k+200 < _;omega⟩
theorem make_depth {A:Around}{C:Addr}{us:List Value}{kw:List (Str×Value)}:(A.under (.builtin "type.__call__" ⟨.ref C::us,kw⟩)).depth=A.depth+1:=by
 first | rfl | simp [Around.under,Code.weight,Code.isCreation,Code.isGuard,Code.isCaller,Code.frames,Code.isFrame,guardIds]
theorem make_units {A:Around}{C:Addr}{us:List Value}{kw:List (Str×Value)}:(A.under (.builtin "type.__call__" ⟨.ref C::us,kw⟩)).units=A.units+1:=by
 first | rfl | simp [Around.under,Code.cUnits,Code.frames,Code.isFrame]
theorem Room.make {k:Nat}{A:Around}(r:Room (k+1) A)(C:Addr)(us:List Value)(kw:List (Str×Value)):Room k (A.under (.builtin "type.__call__" ⟨.ref C::us,kw⟩)) :=
 ⟨r.hd,by have:=r.dp;rw [make_depth];omega,by have:=r.un;rw [make_units];omega⟩
theorem Room.depth {k:Nat}{A:Around}(r:Room k A):A.depth < recursionLimit:=by have:=r.dp;omega
theorem Room.units {k:Nat}{A:Around}(r:Room k A):A.units+64 < cLine:=by have:=r.un;omega
def tNil:TA:=fun _ H Q=>Q [] H
def tCons (ta:TE)(tr:TA):TA:=fun σ H Q=>ta σ H fun x H1=>tr σ H1 fun xs H2=>Q (x::xs) H2
section
variable {X:Cx}{e:Expr}{es:List Expr}{te:TE}{t:TA}{pos:Pos}
theorem pN:PA X [] tNil:=fun _ _ _ _ H Q I h=>Calls.spliced_nil ⟨[],H,I,.nil,h⟩
theorem pC (ha:PE X e te)(hr:PA X es t)(hs:starEach (e::es) X.env=(false,eval e X.env)::starEach es X.env:=by rfl):PA X (e::es) (tCons te t):=by
 intro pos pins s σ H Q I h;rw [hs];show wpAny _ _ (spliced ((false,eval e X.env)::backTo pos (starEach es X.env))) _ _ s
 refine Calls.spliced_cons (thn (ha pins s σ H _ I h) fun u s1 ⟨x,H1,I1,r1,q1⟩=>?_)
 exact thn (hr pos pins s1 σ H1 _ I1 q1) fun us s2 ⟨xs,H2,I2,r2,q2⟩=>⟨x::xs,H2,I2,.cons r1 r2,q2⟩
def tTup (t:TA):TE:=fun σ H Q=>t σ H fun xs H1=>xs.length<=sizeLine/\∀ p,H1 p=none->Q (.ref p) (upd H1 p (.tup xs))
def tLst (t:TA):TE:=fun σ H Q=>t σ H fun xs H1=>xs.length<=sizeLine/\∀ p,H1 p=none->Q (.ref p) (upd H1 p (.lst xs))
theorem eM {x1}(h:PA X es t):PE X (.Tuple es x1 pos) (tTup t):=by
 intro pins s σ H Q I hq;refine wpAny_Tuple_spliced (thn (h pos pins s σ H _ I hq) fun us s1 ⟨xs,H1,I1,r,z,q⟩=>⟨by rw [<-r.length];exact z,?_⟩)
 have hf:H1 s1.heap.objs.size=none:=I1.hok.fresh (Nat.le_refl _)
 refine⟨.ref s1.heap.objs.size,upd H1 s1.heap.objs.size (.tup xs),I1.laid (t':=s1.toks) (fun b u e=>Heap.get?_push_of_some _ e) (Nat.le_refl _) ?_,rfl,q _ hf⟩
 exact⟨z,us,r,⟨_,Heap.get?_push_size _ rfl,rfl,⟨_,rfl⟩,rfl⟩⟩
theorem aT (h:PA X es t):PE X (.List es pos) (tLst t):=by
 intro pins s σ H Q I hq;refine wpAny_List_spliced (thn (h pos pins s σ H _ I hq) fun us s1 ⟨xs,H1,I1,r,z,q⟩=>⟨by rw [<-r.length];exact z,?_⟩)
 have hf:H1 s1.heap.objs.size=none:=I1.hok.fresh (Nat.le_refl _)
 refine⟨.ref s1.heap.objs.size,upd H1 s1.heap.objs.size (.lst xs),I1.laid (t':=s1.toks) (fun b u e=>Heap.get?_push_of_some _ e) (Nat.le_refl _) ?_,rfl,q _ hf⟩
 exact⟨z,us,0,r,Heap.get?_push_size _ rfl⟩
end
abbrev Sp:=List V->Hp->VK->XK->Prop
abbrev CXT:=List Env->Hp->Shared->XK->Value->Shared->Prop
structure Env0 (P:Program)(w:World)(K:W.Frag)(mg:Str->Option Value)(base:Heap)(A:Around)(outer:List Env)(s:Shared)(H:Hp):Prop where
 frames:A.frames=some outer
 mod:Mod K mg base
 bs:∀ b o,base.get? b=some o->s.heap.get? b=some o/\H b=none
 bsz:base.objs.size<=s.heap.objs.size
 funs:s.heap.FunFrames base outer
 frf:∀ b∈frs outer,H b=none
 hok:HOk P w H s.heap
 bare:AllBare s.gens
def CE (outer:List Env)(P:Program)(w:World)(H:Hp)(s:Shared)(Q:VK)(u:Value)(s':Shared):Prop :=
 ∃ v H',s'.os=s.os/\AllBare s'.gens/\Un (frs outer) [] H H' s.heap s'.heap/\HOk P w H' s'.heap/\RelV v u/\Q v H'
def CR (CX:CXT)(outer:List Env)(P:Program)(w:World)(H:Hp)(s:Shared)(Q:VK)(E:XK)(r:Result)(s':Shared):Prop :=
 match r with
 | .ok (.ret u)=>CE outer P w H s Q u s'
 | .ok _=>False
 | .error e=>CX outer H s E e s'
structure FnOk (P:Program)(w:World)(K:W.Frag)(mg:Str->Option Value)(base:Heap)(CX:CXT)(k:Nat)(f:Addr)(fd:FuncData)(ps:List Str)(sp:Sp):Prop where
 len:∀ vs H Q E,sp vs H Q E->vs.length=ps.length
 run:∀ (A:Around)(outer:List Env)(s:Shared)(H:Hp)(args:Args)(us:List Value)(vs:List V)(Q:VK)(E:XK),Room k A->Env0 P w K mg base A outer s H->BindsTo s fd args (ps.zip us)->Vals vs us->sp vs H Q E ->
  codeAny (model P w) A (.call (.ref f) args) (CR CX outer P w H s Q E) s
theorem Env0.make {P:Program}{w:World}{K:W.Frag}{mg:Str->Option Value}{base:Heap}{A:Around}{outer:List Env}{s:Shared}{H:Hp}(e:Env0 P w K mg base A outer s H)(C:Addr)(us:List Value)(kw:List (Str×Value)) :
  Env0 P w K mg base (A.under (.builtin "type.__call__" ⟨.ref C::us,kw⟩)) outer s H:=⟨by first | exact e.frames | (simpa [Around.under,Code.envs,Code.isFrame,pushEnvs] using e.frames),e.mod,e.bs,e.bsz,e.funs,e.frf,e.hok,e.bare⟩
section
variable {X:Cx}{pins:List (Addr×Obj)}{σ:St}{H:Hp}{s s':Shared}
theorem Inv.env0 (I:Inv X pins σ H s):Env0 X.prog X.w X.K X.mg X.base X.A X.stack s H :=
 ⟨I.ok.frames,I.ok.mod,I.bs,Nat.le_trans I.ok.bsz I.sz,I.stack,I.stkFree,I.hok,I.bare⟩
theorem Inv.after {Q:VK}{u:Value}(I:Inv X pins σ H s)(h:CE X.stack X.prog X.w H s Q u s'):EP X pins σ Q u s':=by
 obtain⟨v,H',os,bare,un,hok,r,q⟩:=h;obtain⟨hh,g,d,t,os'⟩:=s';obtain rfl:os'=s.os:=os
 exact⟨v,H',I.call (h':=hh) (g':=g) (d':=d) (t':=t) (ch:=[]) un hok bare (fun b z=>absurd z (by simp)),r,q⟩
end
def tCall (sp:Sp)(dvs:List V)(E:XK)(t:TA):TE:=fun σ H Q=>t σ H fun vs H1=>sp (vs++dvs) H1 Q E
def tMeth (C:Addr)(m:Str)(sp:Sp)(dvs:List V)(E:XK)(ta:TE)(t:TA):TE:=fun σ H Q=>ta σ H fun x H1=>∃ a dx fs,x=.ref a/\H1 a=some (.ins C dx fs)/\fs.lookup m=none /\
 t σ H1 fun vs H2=>sp (x::(vs++dvs)) H2 Q E
def tMake (C:Addr)(sp:Sp)(dvs:List V)(E:XK)(t:TA):TE:=fun σ H Q=>t σ H fun vs H1=>∀ x dx,H1 x=none->H1 dx=none->dx≠x ->
 sp (.ref x::(vs++dvs)) (upd (upd H1 dx (.own x)) x (.ins C dx [])) (fun v H2=>v=.non/\Q (.ref x) H2) E
def Binds (K:W.Frag)(fd:FuncData)(ps:List Str)(ds:List Value):Prop :=
 ∀ (s:Shared)(us:List Value),K.In s.heap->(us++ds).length=ps.length->BindsTo s fd ⟨us,[]⟩ (ps.zip (us++ds))
theorem Binds.all {K:W.Frag}{fd:FuncData}{ps:List Str}(h:∀ us:List Value,us.length=ps.length->bindArgs fd ⟨us,[]⟩=pure (ps.zip us)):Binds K fd ps []:=fun s us _ hl=>by
 rw [List.append_nil] at hl ⊢;exact .of_eq (h us hl)
def Passes (CX:CXT)(X:Cx)(E:XK):Prop:=∀ (pins:List (Addr×Obj))(σ:St)(H:Hp)(s:Shared)(e:Value)(s':Shared),Inv X pins σ H s->CX X.stack H s E e s'->X.xe e s'
section
variable {X:Cx}{CX:CXT}{k:Nat}{f C:Addr}{fd:FuncData}{ps:List Str}{sp:Sp}{dvs:List V}{ds:List Value}{E:XK}{x m:Str}{p pos apos:Pos}{e o:Expr}{es:List Expr}{ta:TE}{t:TA}
theorem run_fn {pins:List (Addr×Obj)}{σ:St}{H:Hp}{s:Shared}{Q:VK}{us:List Value}{vs:List V}(F:FnOk X.prog X.w X.K X.mg X.base CX k f fd ps sp)(hr:Room k X.A)(hb:Binds X.K fd ps ds)(hd:Vals dvs ds)(hx:Passes CX X E)
  (I:Inv X pins σ H s)(r:Vals vs us)(h:sp (vs++dvs) H Q E):wpAny (model X.prog X.w) X.A (call (.ref f) us) (EP X pins σ Q) X.xe s:=by
 have r2:Vals (vs++dvs) (us++ds):=r.append hd
 have hl:(us++ds).length=ps.length:=by rw [<-r2.length];exact F.len _ _ _ _ h
 refine wpAny_call (codeAny_mono (F.run X.A X.stack s H ⟨us,[]⟩ (us++ds) (vs++dvs) Q E hr I.env0 (hb s us I.kIn hl) r2 h) fun r s' hq=>?_)
 cases r with
 | error e=>exact hx pins σ H s e s' I hq
 | ok fl =>
  cases fl with
  | ret u=>exact I.after hq
  | next=>exact False.elim hq
  | brk=>exact False.elim hq
  | cont=>exact False.elim hq
theorem pe_call (F:FnOk X.prog X.w X.K X.mg X.base CX k f fd ps sp)(hr:Room k X.A)(hg:Gl X x)(hm:X.mg x=some (.ref f))(hk:W.keepIn X.K (.ref f)=true)(hb:Binds X.K fd ps ds)(hd:Vals dvs ds)(hx:Passes CX X E)
  (ha:PA X (e::es) t)(hdb:(x==("__debug__" : Str))=false:=by decide)(he:starEach (e::es) X.env=(false,eval e X.env)::starEach es X.env:=by rfl)(hpl:(backTo pos (starEach es X.env)).any (·.1)=false:=by rfl) :
  PE X (.Call (.Name x p) (e::es) [] pos) (tCall sp dvs E t):=by
 intro pins s σ H Q I h;refine wpAny_Call_Name_kw (ld_glob I hg hm ?_ hdb)
 refine W.callWith_K (h₀:=X.base) I.ok.mod.kin hk (thn (ha pos pins s σ H _ I h) fun us s1 ⟨vs,H1,I1,r,q⟩=>⟨I1.kIn,?_⟩) he hpl
 exact run_fn F hr hb hd hx I1 r q
theorem pe_meth {pl:Sem Bool}(he:PE X o ta)(c:Cls X.K C)(hm:Meth X.K C m f)(F:FnOk X.prog X.w X.K X.mg X.base CX k f fd ps sp)(hr:Room k X.A)(hb:Binds X.K fd ps ds)(hd:Vals dvs ds)(hx:Passes CX X E)(ha:PA X (e::es) t)
  (hst:starEach (e::es) X.env=(false,eval e X.env)::starEach es X.env:=by rfl)(hpl:(backTo pos (starEach es X.env)).any (·.1)=false:=by rfl)
  (ht:eval (.Call (.Attribute o m apos) (e::es) [] pos) X.env=(do
   let ov <-eval o X.env
   standAt apos.atName
   let (f,first) <-holding [ov] (getMethod ov m pl)
   callWith pos f first (backTo pos (starEach (e::es) X.env)) (backToKw pos (keywordEach [] X.env))):=by rfl) :
  PE X (.Call (.Attribute o m apos) (e::es) [] pos) (tMeth C m sp dvs E ta t):=by
 intro pins s σ H Q I h;refine W.methodCall_KW (pl:=pl) (thn (he pins s σ H _ I h) fun u s1 ⟨x,H1,I1,rx,a,dx,fs,ex,ea,l,q⟩=>?_) ht
 subst ex;obtain rfl:u=Value.ref a:=rx
 refine getmeth_ok I1 ea c hm l ?_
 refine W.callWith_K (first:=[.ref a]) (h₀:=X.base) I.ok.mod.kin hm.kp (thn (ha pos pins s1 σ H1 _ I1 q) fun us s2 ⟨vs,H2,I2,r,q2⟩=>⟨I2.kIn,?_⟩) hst hpl
 exact run_fn (us:=.ref a::us) (vs:=.ref a::vs) F hr hb hd hx I2 (.cons rfl r) q2
theorem pe_meth0 {pl:Sem Bool}(he:PE X o ta)(c:Cls X.K C)(hm:Meth X.K C m f)(F:FnOk X.prog X.w X.K X.mg X.base CX k f fd ps sp)(hr:Room k X.A)(hb:Binds X.K fd ps ds)(hd:Vals dvs ds)(hx:Passes CX X E)
  (ht:eval (.Call (.Attribute o m apos) [] [] pos) X.env=(do
   let ov <-eval o X.env
   standAt apos.atName
   let (f,first) <-holding [ov] (getMethod ov m pl)
   callWith pos f first (backTo pos (starEach [] X.env)) (backToKw pos (keywordEach [] X.env))):=by rfl) :
  PE X (.Call (.Attribute o m apos) [] [] pos) (tMeth C m sp dvs E ta tNil):=by
 intro pins s σ H Q I h;refine W.methodCall_KW (pl:=pl) (thn (he pins s σ H _ I h) fun u s1 ⟨x,H1,I1,rx,a,dx,fs,ex,ea,l,q⟩=>?_) ht
 subst ex;obtain rfl:u=Value.ref a:=rx
 refine getmeth_ok I1 ea c hm l ?_
 exact W.callWith_K0 (first:=[.ref a]) I1.kIn hm.kp (run_fn (us:=[.ref a]) (vs:=[.ref a]) F hr hb hd hx I1 (.cons rfl .nil) q)
structure Mk (K:W.Frag)(C f:Addr):Prop where
 makes:W.makesIn K C=true
 init:W.findIn K (.ref C) "__init__" = some (some (.ref f))
 fn:W.isFn K (.ref f)=true
 kp:W.keepIn K (.ref C)=true
theorem run_make {pins:List (Addr×Obj)}{σ:St}{H:Hp}{s:Shared}{Q:VK}{us:List Value}{vs:List V}(M:Mk X.K C f)(F:FnOk X.prog X.w X.K X.mg X.base CX k f fd ps sp)(hr:Room (k+1) X.A)(hb:Binds X.K fd ps ds)(hd:Vals dvs ds)
  (hx:Passes CX X E)(I:Inv X pins σ H s)(r:Vals vs us)
  (h:∀ x dx,H x=none->H dx=none->dx≠x->sp (.ref x::(vs++dvs)) (upd (upd H dx (.own x)) x (.ins C dx [])) (fun v H2=>v=.non/\Q (.ref x) H2) E) :
  wpAny (model X.prog X.w) X.A (call (.ref C) us) (EP X pins σ Q) X.xe s:=by
 have hq:=h (s.heap.objs.size+1) s.heap.objs.size (I.hok.fresh (Nat.le_succ _)) (I.hok.fresh (Nat.le_refl _)) (Nat.ne_of_lt (Nat.lt_succ_self _));have I2:=Inv.made (C:=C) I
 have r2:Vals (V.ref (s.heap.objs.size+1)::(vs++dvs)) (Value.ref (s.heap.objs.size+1)::(us++ds)):=.cons rfl (r.append hd)
 have hl:(Value.ref (s.heap.objs.size+1)::us++ds).length=ps.length:=by
  have e:=r2.length;rw [F.len _ _ _ _ hq] at e;exact e.symm
 refine wpAny_call (make_map (f:=f) I.kIn M.makes M.init (beq_iff_eq.mp M.fn) (codeAny_mono (F.run _ X.stack _ _ ⟨Value.ref (s.heap.objs.size+1)::us,[]⟩ (Value.ref (s.heap.objs.size+1)::(us++ds)) _ _ E (hr.make C us [])
  (I2.env0.make C us []) (hb _ (Value.ref (s.heap.objs.size+1)::us) I2.kIn hl) r2 hq) fun r s' hq'=>?_))
 cases r with
 | error e=>exact hx pins σ _ _ e s' I2 hq'
 | ok fl =>
  cases fl with
  | ret u =>
   obtain⟨v,H',I3,rv,ev,q3⟩:=I2.after hq';subst ev;exact⟨rv,⟨V.ref (s.heap.objs.size+1),H',I3,rfl,q3⟩⟩
  | next=>exact False.elim hq'
  | brk=>exact False.elim hq'
  | cont=>exact False.elim hq'
theorem pe_make (M:Mk X.K C f)(F:FnOk X.prog X.w X.K X.mg X.base CX k f fd ps sp)(hr:Room (k+1) X.A)(hg:Gl X x)(hm:X.mg x=some (.ref C))(hb:Binds X.K fd ps ds)(hd:Vals dvs ds)(hx:Passes CX X E)
  (ha:PA X (e::es) t)(hdb:(x==("__debug__" : Str))=false:=by decide)(he:starEach (e::es) X.env=(false,eval e X.env)::starEach es X.env:=by rfl)(hpl:(backTo pos (starEach es X.env)).any (·.1)=false:=by rfl) :
  PE X (.Call (.Name x p) (e::es) [] pos) (tMake C sp dvs E t):=by
 intro pins s σ H Q I h;refine wpAny_Call_Name_kw (ld_glob I hg hm ?_ hdb)
 refine W.callWith_K (h₀:=X.base) I.ok.mod.kin M.kp (thn (ha pos pins s σ H _ I h) fun us s1 ⟨vs,H1,I1,r,q⟩=>⟨I1.kIn,?_⟩) he hpl
 exact run_make M F hr hb hd hx I1 r q
theorem pe_make0 (M:Mk X.K C f)(F:FnOk X.prog X.w X.K X.mg X.base CX k f fd ps sp)(hr:Room (k+1) X.A)(hg:Gl X x)(hm:X.mg x=some (.ref C))(hb:Binds X.K fd ps ds)(hd:Vals dvs ds)(hx:Passes CX X E)
  (hdb:(x==("__debug__" : Str))=false:=by decide):PE X (.Call (.Name x p) [] [] pos) (tMake C sp dvs E tNil):=by
 intro pins s σ H Q I h;refine wpAny_Call_Name_kw (ld_glob I hg hm ?_ hdb)
 exact W.callWith_K0 I.kIn M.kp (run_make (us:=[]) M F hr hb hd hx I .nil h)
end
structure fS (N P:List Str)(sc:Scope):Prop where
 kind:sc.kind=.function
 co:sc.isCoroutine=false
 gen:sc.isGenerator=false
 nd:N.Nodup
 pre:N.take P.length=P
 par:∀ x∈P,sc.names.lookup x=some .local\/sc.names.lookup x=some .cell
 nofree:∀ y∈sc.names,y.2≠.free
theorem bindL_out {kindOf:Str->Option NameKind}{x:Str}:∀ {binds:List (Str×Value)}{m:Str->Option Value},(∀ v,(x,v) ∉ binds)->bindL kindOf binds m x=m x
 | [],_,_=>rfl
 | (n,v)::r,m,h=>by
  unfold bindL;rw [bindL_out fun w hw=>h w (List.mem_cons_of_mem _ hw)]
  split
  ·have:x≠n:=by rintro rfl;exact h v List.mem_cons_self
   simp [this]
  ·rfl
theorem bindC_out {kindOf:Str->Option NameKind}{x:Str}:∀ {binds:List (Str×Value)}{m:Str->Option Value},(∀ v,(x,v) ∉ binds)->bindC kindOf binds m x=m x
 | [],_,_=>rfl
 | (n,v)::r,m,h=>by
  unfold bindC;rw [bindC_out fun w hw=>h w (List.mem_cons_of_mem _ hw)]
  split
  ·rfl
  ·have:x≠n:=by rintro rfl;exact h v List.mem_cons_self
   simp [this]
theorem bindL_get {kindOf:Str->Option NameKind}{x:Str}{v:Value}:∀ {P:List Str}{vs:List Value}{i:Nat}{m:Str->Option Value},P.Nodup->P[i]?=some x->vs[i]?=some v->kindOf x=some .local ->
  bindL kindOf (P.zip vs) m x=some v
 | [],_,_,_,_,h,_,_=>by simp at h
 | _::_,[],_,_,_,_,h,_=>by simp at h
 | p::P,w::vs,0,m,nd,h1,h2,hk=>by
  simp at h1 h2;subst h1;subst h2
  show bindL kindOf ((p,w)::P.zip vs) m p=_
  unfold bindL;rw [bindL_out fun v hv=>(List.nodup_cons.mp nd).1 (List.of_mem_zip hv).1,if_pos hk]
  simp
 | p::P,w::vs,i+1,m,nd,h1,h2,hk=>by
  show bindL kindOf ((p,w)::P.zip vs) m x=_
  unfold bindL;exact bindL_get (i:=i) (List.nodup_cons.mp nd).2 (by simpa using h1) (by simpa using h2) hk
theorem bindC_get {kindOf:Str->Option NameKind}{x:Str}{v:Value}:∀ {P:List Str}{vs:List Value}{i:Nat}{m:Str->Option Value},P.Nodup->P[i]?=some x->vs[i]?=some v->kindOf x≠some .local ->
  bindC kindOf (P.zip vs) m x=some v
 | [],_,_,_,_,h,_,_=>by simp at h
 | _::_,[],_,_,_,_,h,_=>by simp at h
 | p::P,w::vs,0,m,nd,h1,h2,hk=>by
  simp at h1 h2;subst h1;subst h2
  show bindC kindOf ((p,w)::P.zip vs) m p=_
  unfold bindC;rw [bindC_out fun v hv=>(List.nodup_cons.mp nd).1 (List.of_mem_zip hv).1,if_neg hk]
  simp
 | p::P,w::vs,i+1,m,nd,h1,h2,hk=>by
  show bindC kindOf ((p,w)::P.zip vs) m x=_
  unfold bindC;exact bindC_get (i:=i) (List.nodup_cons.mp nd).2 (by simpa using h1) (by simpa using h2) hk
def start (N:List Str)(vs:List V):St:=vs.map some++List.replicate (N.length - vs.length) none
def cxOf (CX:CXT)(P:Program)(w:World)(K:W.Frag)(mg:Str->Option Value)(base:Heap)(N:List Str)(qual:Str)(scope:Scope)(f:Addr)(cd:Value)(A:Around)(outer:List Env)(s:Shared)(H:Hp)(E:XK):Cx where
 prog:=P
 w:=w
 K:=K
 mg:=mg
 base:=base
 A:=A.deeper (envOfC qual scope s.heap.objs.size f cd)
 N:=N
 s_0:=s
 H_0:=H
 env:=envOfC qual scope s.heap.objs.size f cd
 outer:=outer
 stack:=envOfC qual scope s.heap.objs.size f cd::outer
 ex:=[]
 calm:=true
 fn:=fun _=>true
 pn:=[]
 xe:=fun e s'=>wpAny (model P w) (A.deeper (envOfC qual scope s.heap.objs.size f cd)) (leaving (envOfC qual scope s.heap.objs.size f cd) e) (fun _ s''=>CX outer H s E e s'') (fun e' s''=>CX outer H s E e' s'') s'
theorem cell_has {sc:Scope}{n:Nat}{x:Str}(h:sc.names.lookup x=some .cell):∃ c,(cellsFrom n sc.names []).lookup x=some c:=by
 have q:=W.cellsFrom_some sc.names n [] (.inl h);exact Option.isSome_iff_exists.mp q
theorem inv_start {CX:CXT}{P:Program}{w:World}{K:W.Frag}{mg:Str->Option Value}{base:Heap}{N ps:List Str}{qual:Str}{scope:Scope}{f:Addr}{cd:Value}{A:Around}{outer:List Env}{s s1:Shared}{H:Hp}{E:XK}{us:List Value}{vs:List V}
  (S:fS N ps scope)(hd:A.handled=none)(e0:Env0 P w K mg base A outer s H)(hl:vs.length=ps.length)(r:Vals vs us)
  (x:InCallC s s.heap.objs.size (bindL (envOfC qual scope s.heap.objs.size f cd).kindOf (ps.zip us) fun _=>none) (cellsFrom (s.heap.objs.size+1) scope.names []) (bindC (envOfC qual scope s.heap.objs.size f cd).kindOf (ps.zip us) fun _=>none) s1) :
  Inv (cxOf CX P w K mg base N qual scope f cd A outer s H E) [] (start N vs) H s1:=by
 have hpl:ps.length<=N.length:=by have:=congrArg List.length S.pre;rw [List.length_take] at this;omega
 obtain⟨h1,tk,rfl,hk⟩:=x.done;have noA:∀ b:Addr,b ∉ (cxOf CX P w K mg base N qual scope f cd A outer s H E).ex:=fun b z=>absurd (show b∈([]:List Addr) from z) (by simp)
 refine⟨⟨e0.mod,S.kind,rfl,rfl,Nat.le_refl _,fun y z c h1 h2=>?_,fun y hy=>?_,fun y c _ h=>?_,fun _=>hd,Around.frames_deeper e0.frames,.inr ⟨rfl,rfl⟩,fun b z=>absurd z (noA b),e0.bs,e0.bsz,fun b _ _=>noA b,fun b z=>absurd z (noA b),e0.funs,e0.frf⟩,
  rfl,e0.bare,Un.kept hk,⟨_,x.toInCall.ns,fun i y v h1 h2 h3=>?_⟩,fun y c h=>⟨_,x.cell y c h⟩,e0.hok.fresh (Nat.le_refl _),fun y c h=>?_,fun p hp=>absurd (show p∈([]:List (Addr×Obj)) from hp) (by simp),e0.hok.kept hk,?_⟩
 ·exact name_of_addr x.apart (PySem.mem_of_lookup h1) (PySem.mem_of_lookup h2)
 ·have hy:scope.names.lookup y=some .cell\/scope.names.lookup y=some .free:=hy
  rcases hy with hy | hy
  ·exact cell_has hy
  ·exact absurd rfl (S.nofree _ (PySem.mem_of_lookup hy))
 ·exact Nat.le_of_lt (x.above y c (PySem.mem_of_lookup h))
 ·have hi:i < vs.length:=by
   unfold start at h2;by_cases hi:i < vs.length
   ·exact hi
   ·rw [List.getElem?_append_right (by simpa using hi)] at h2
    rw [List.getElem?_replicate] at h2;split at h2 <;> cases h2
  have ha:vs[i]?=some v:=by
   unfold start at h2;rw [List.getElem?_append_left (by simpa using hi),List.getElem?_map] at h2
   cases e:vs[i]? with
   | none=>rw [e] at h2;cases h2
   | some a=>rw [e] at h2;cases h2;rfl
  obtain⟨u,hu,rv⟩:=r.get ha
  have hp:ps[i]?=some y:=by
   rw [<-S.pre,List.getElem?_take_of_lt (by omega)];exact h1
  have ndP:ps.Nodup:=by rw [<-S.pre];exact S.nd.sublist (List.take_sublist _ _)
  refine⟨u,rv,?_⟩
  rcases S.par y (List.mem_of_getElem? hp) with k | k
  ·exact .inl ⟨k,bindL_get ndP hp hu k⟩
  ·obtain⟨c,e⟩:=cell_has (n:=s.heap.objs.size+1) k
   refine .inr ⟨.inl k,c,e,?_⟩
   have q:=x.cell y c e;rw [bindC_get ndP hp hu (by show scope.names.lookup y≠_;rw [k];decide)] at q
   exact q
 ·exact e0.hok.fresh (Nat.le_of_lt (x.above y c (PySem.mem_of_lookup h)))
 ·unfold start;show _=N.length
  rw [List.length_append,List.length_map,List.length_replicate];omega
theorem fn_of {CX:CXT}{P:Program}{w:World}{K:W.Frag}{mg:Str->Option Value}{base:Heap}{k:Nat}{f:Addr}{name qual:Str}{params:Arguments}{body:List Stmt}{scope:Scope}{dV kV doc pm cdv ct oc:Value}{an od:Option Addr}
  {osl:Array (Option Value)}{N ps:List Str}{sp:Sp}(lk:K.lookup f=some ⟨oc,od,.func (W.fnOf name qual params body scope dV kV doc pm an cdv ct),osl⟩)(hcd:W.codeIn K cdv qual=true)(S:fS N ps scope)
  (len:∀ vs H Q E,sp vs H Q E->vs.length=ps.length)
  (hbody:∀ (A:Around)(outer:List Env)(s:Shared)(H:Hp)(vs:List V)(Q:VK)(E:XK),Room k (A.deeper (envOfC qual scope s.heap.objs.size f cdv))->sp vs H Q E ->
   ∃ t,PSs (cxOf CX P w K mg base N qual scope f cdv A outer s H E) body t/\t {nx:=fun _ H'=>Q .non H',rt:=Q} (start N vs) H) :
  FnOk P w K mg base CX (k+1) f (W.fnOf name qual params body scope dV kV doc pm an cdv ct) ps sp:=by
 refine⟨len,fun A outer s H args us vs Q E hr e0 hb r hsp=>?_⟩
 have hl:=len _ _ _ _ hsp;have KX:K.In s.heap:=e0.mod.kin.keeps fun b o e=>(e0.bs b o e).1
 have lim:s.heap.NoLimit:=e0.mod.nolimit.keeps fun b o e=>(e0.bs b o e).1
 have hkind:∀ y∈ps.zip us,scope.names.lookup y.1=some .local\/(scope.names.lookup y.1=some .cell/\((cellsFrom (s.heap.objs.size+1) scope.names []).lookup y.1).isSome=true):=fun⟨n,v⟩ hy=>by
  rcases S.par n (List.of_mem_zip hy).1 with q | q
  ·exact .inl q
  ·exact .inr ⟨q,W.cellsFrom_some _ _ _ (.inl q)⟩
 refine codeAny_call_function hr.depth (KX _ _ lk) rfl S.co S.gen rfl (W.codeRec_of KX hcd) (hb _ _ _ _ ?_)
 refine wpAny_newFunctionEnv_cells S.kind hkind fun env he s1 x=>?_
 subst he;refine⟨lim.keeps x.toInCall.keep,codeAny_func ?_⟩
 obtain⟨t,ht,hq⟩:=hbody A outer s H vs Q E (hr.deeper _) hsp;have I:Inv (cxOf CX P w K mg base N qual scope f cdv A outer s H E) [] (start N vs) H s1:=inv_start S hr.hd e0 hl r x
 refine wpAny_mono (ht [] s1 (start N vs) H _ I hq) (fun fl s' hs=>?_) fun e s' hs=>hs
 have fin:∀ {σ':St}{H':Hp}{v:V}{u:Value},Inv (cxOf CX P w K mg base N qual scope f cdv A outer s H E) [] σ' H' s'->RelV v u->Q v H'->CE outer P w H s Q u s' :=
  fun {σ' H' v u} J rv q=>⟨v,H',J.os,J.bare,J.base,J.hok,rv,q⟩
 cases fl with
 | ret u =>
  obtain⟨v,σ',H',J,rv,q⟩:=hs;exact fin J rv q
 | next =>
  obtain⟨σ',H',J,q⟩:=hs;exact fin (v:=V.non) (u:=Value.none) J rfl q
 | brk =>
  obtain⟨_,_,_,q⟩:=hs;exact False.elim q
 | cont =>
  obtain⟨_,_,_,q⟩:=hs;exact False.elim q
end L2
namespace L2
open PySem PySem.Spec PyProof.Rows
section
variable {X:Cx}{x:Str}{p pos:Pos}{e:Expr}{es:List Expr}{t:TA}{id T:String}{r:List V->Hp->VK->Prop}
def tCB (r:List V->Hp->VK->Prop)(t:TA):TE:=fun σ H Q=>t σ H fun vs H1=>r vs H1 Q
theorem bI (hc:CallR X (.builtin id) r)(hg:Gl X x)(hm:X.mg x=none)(hv:bootBuiltins x=some (.builtin id))(ha:PA X (e::es) t)(hn:x ≠ "__name__" := by decide)(hdb:(x==("__debug__" : Str))=false:=by decide)
  (he:starEach (e::es) X.env=(false,eval e X.env)::starEach es X.env:=by rfl)(hpl:(backTo pos (starEach es X.env)).any (·.1)=false:=by rfl):PE X (.Call (.Name x p) (e::es) [] pos) (tCB r t):=by
 intro pins s σ H Q I h;refine wpAny_Call_Name_kw (ld_blt I hg hm hv ?_ hn hdb)
 exact PyProof.Rows.callWith_builtin1 (thn (ha pos pins s σ H _ I h) fun us s1 ⟨vs,H1,I1,r1,q1⟩=>hc pins s1 σ H1 vs us Q I1 r1 q1) he hpl
theorem gI (hc:CallR X (.type T) r)(hg:Gl X x)(hm:X.mg x=none)(hv:bootBuiltins x=some (.type T))(ha:PA X (e::es) t)(hn:x ≠ "__name__" := by decide)(hdb:(x==("__debug__" : Str))=false:=by decide)
  (he:starEach (e::es) X.env=(false,eval e X.env)::starEach es X.env:=by rfl)(hpl:(backTo pos (starEach es X.env)).any (·.1)=false:=by rfl):PE X (.Call (.Name x p) (e::es) [] pos) (tCB r t):=by
 intro pins s σ H Q I h;refine wpAny_Call_Name_kw (ld_blt I hg hm hv ?_ hn hdb)
 exact PyProof.Rows.callWith_type1 (thn (ha pos pins s σ H _ I h) fun us s1 ⟨vs,H1,I1,r1,q1⟩=>hc pins s1 σ H1 vs us Q I1 r1 q1) he hpl
end
end L2
namespace HT
open PySem PyProof.Rows
def lexLt:List Int->List Int->Bool
 | [],[]=>false
 | [],_::_=>true
 | _::_,[]=>false
 | x::xs,y::ys=>if x=y then lexLt xs ys else decide (x < y)
theorem lexLt_cons (x y:Int)(xs ys:List Int):lexLt (x::xs) (y::ys)=if x=y then lexLt xs ys else decide (x < y):=rfl
theorem lexLt_nil_nil:lexLt [] []=false:=rfl
theorem lexLt_nil_cons (y:Int)(ys:List Int):lexLt [] (y::ys)=true:=rfl
theorem lexLt_cons_nil (x:Int)(xs:List Int):lexLt (x::xs) []=false:=rfl
theorem eqAt_int (A:Around)(s:Shared) (a:Int)(t:Tok) (c:Int)(u:Tok):∃ e,SeqAt.EqAt A s (.int a t) (.int c u) e/\(e=true↔a=c) :=
 ⟨(a==c),SeqAt.EqAt.int_int a t c u,by simp⟩
theorem rcLt_int (A:Around)(s:Shared) (a:Int)(t:Tok) (c:Int)(u:Tok)(prog:Program)(w:World)(E:Value->Shared->Prop)(Q:Value->Shared->Prop)(h:Q (.bool (decide (a < c))) s) :
  wpAny (model prog w) A (richCompare .Lt (.int a t) (.int c u)) Q E s :=
 (PyProof.Rows.lt_int h:wpAny (model prog w) A (compareOp .Lt (.int a t) (.int c u)) Q E s)
section
open PySem.SeqAt
open PySem.AutoSeq1 (wpAny_loadPart')
open PySem.MeetsSeq PySem.MeetsSeq2 PySem.MeetsSeq3
theorem tuple_lt_ints (l b:Addr)(items items2:Array Value)(n n2:Nat)(dd dd2:Option Addr)(sl sl2:Array (Option Value))(ns ms:List Int)(hi:IntsAre items.toList ns)(hj:IntsAre items2.toList ms) :
  Meets (Builtin.«tuple.__lt__» ⟨[.ref l,.ref b],[]⟩)
   (fun _ R s=>s.heap.get? l=some {cls:=.type "tuple",dict:=dd,data:=.seq items n,slots:=sl}/\s.heap.get? b=some {cls:=.type "tuple",dict:=dd2,data:=.seq items2 n2,slots:=sl2} /\
    R (.ok (.ret (.bool (lexLt ns ms)))) s) :=
 .of_wp fun prog w A R s h=>by
  obtain⟨hp,g,d,tk,os⟩:=s;obtain⟨hl,hb,h⟩:=h;have f2:=AutoSeq1.sub_tuple_tuple;have z1:items.size=ns.length:=by rw [<-hi.length];simp
  have z2:items2.size=ms.length:=by rw [<-hj.length];simp
  wp_walk using wpAny_loadPart' hl,wpAny_loadPart' hb,wpAny_forIn_list _ (fun rest b s'=>b.1=none/\s'=⟨hp,g,d,tk,os⟩/\∃ (vs ws:List Value)(ns' ms':List Int),rest=vs.zip ws /\
   IntsAre vs ns'/\IntsAre ws ms'/\ns'.length+items2.size=ms'.length+items.size/\R (.ok (.ret (.bool (lexLt ns' ms')))) ⟨hp,g,d,tk,os⟩) _
  case turn =>
   rintro ⟨y,x⟩ rest b s' ⟨hb',rfl,vs,ws,ns',ms',hz,hvi,hwi,hlen,hR⟩
   cases hvi with
   | nil=>rw [List.zip_nil_left] at hz;cases hz
   | cons a t hvi' =>
    cases hwi with
    | nil=>rw [List.zip_nil_right] at hz;cases hz
    | cons c u hwi' =>
     rw [List.zip_cons_cons] at hz;injection hz with hyx hrest
     injection hyx with hy hx
     subst hy hx;rw [lexLt_cons] at hR;simp only [List.length_cons] at hlen;obtain⟨e,he,hiff⟩:=eqAt_int A.in1 ⟨hp,g,d,tk,os⟩ a t c u;refine wpAny_bind (he prog w _ _ ?_)
     cases e with
     | true =>
      rw [if_pos (hiff.mp rfl)] at hR;wp_walk
      exact⟨rfl,rfl,_,_,_,_,hrest,hvi',hwi',by omega,hR⟩
     | false =>
      rw [if_neg (fun q=>absurd (hiff.mpr q) Bool.false_ne_true)] at hR
      have hri:=rcLt_int A.in1 ⟨hp,g,d,tk,os⟩ a t c u prog w;wp_walk using hri
      exact⟨_,rfl,by simpa using hR⟩
  case fin =>
   rintro ⟨b1,b2⟩ s' ⟨hb',rfl,vs,ws,ns',ms',hz,hvi,hwi,hlen,hR⟩
   simp only at hb'
   subst hb'
   have hv:lexLt ns' ms'=decide (items.size < items2.size):=by
    cases hvi with
    | nil =>
     cases hwi with
     | nil =>
      simp only [List.length_nil] at hlen;rw [lexLt_nil_nil];exact(decide_eq_false (by omega)).symm
     | cons c u hw =>
      simp only [List.length_nil,List.length_cons] at hlen;rw [lexLt_nil_cons];exact(decide_eq_true (by omega)).symm
    | cons a t hv =>
     cases hwi with
     | nil =>
      simp only [List.length_nil,List.length_cons] at hlen;rw [lexLt_cons_nil];exact(decide_eq_false (by omega)).symm
     | cons c u hw =>
      rw [List.zip_cons_cons] at hz;cases hz
   rw [hv] at hR;wp_walk
   exact⟨_,rfl,by simpa [Builtin.Tuple.tupleCompareSizes] using hR⟩
  case h =>
   exact⟨rfl,rfl,items.toList,items2.toList,ns,ms,rfl,hi,hj,by omega,h⟩
end
section
variable {prog:Program}{w:World}{A:Around}{E:Value->Shared->Prop}{s:Shared}
theorem lt_tupInts {l b:Addr}{items items2:Array Value}{ns ms:List Int}{Q:Value->Shared->Prop}(hl:IsTup s.heap l items)(hb:IsTup s.heap b items2)(hi:IntsAre items.toList ns)(hj:IntsAre items2.toList ms)
  (hu:A.units < cLine)(h:Q (.bool (lexLt ns ms)) s):wpAny (model prog w) A (compareOp .Lt (.ref l) (.ref b)) Q E s:=by
 obtain⟨⟨cls,dd,data,sl⟩,ho,hc,n,hd⟩:=id hl;obtain⟨⟨cls2,dd2,data2,sl2⟩,ho2,hc2,n2,hd2⟩:=id hb;simp only at hc hd hc2 hd2
 subst hc hd hc2 hd2
 exact richCompare_meets_room (op:=.Lt) ⟨_,ho,rfl⟩ ⟨_,ho2,rfl⟩ PySem.F.slot_tuple_lt PySem.F.entry_tuple_lt (PySem.F.args_tuple_lt_2 _ _) (tuple_lt_ints l b items items2 n n2 dd dd2 sl sl2 ns ms hi hj)
  ⟨ho,ho2,show Value.bool (lexLt ns ms)≠Value.notImplemented/\Q (.bool (lexLt ns ms)) s from⟨(fun x=>nomatch x),h⟩⟩ hu
theorem cat_tup {t b:Addr}{vs ws:List Value}{Q:Value->Shared->Prop}(ht:IsTup s.heap t vs.toArray)(hb:IsTup s.heap b ws.toArray)(hv:vs≠[])
  (h1:ws=[]->Q (.ref t) s)(h2:ws≠[]->Q (.ref s.heap.objs.size) {s with heap:=s.heap.push {cls:=.type "tuple",data:=.seq (vs++ws).toArray}})
  (hsz:vs.length+ws.length<=sizeLine):wpAny (model prog w) A (binaryOp .Add (.ref t) (.ref b)) Q E s:=by
 obtain⟨⟨cls,dd,data,sl⟩,ho,hc,n,hd⟩:=id ht;obtain⟨⟨cls2,dd2,data2,sl2⟩,ho2,hc2,n2,hd2⟩:=id hb;simp only at hc hd hc2 hd2
 subst hc hd hc2 hd2;have e:vs.toArray++ws.toArray=(vs++ws).toArray:=by simp
 by_cases hw:ws=[]
 ·exact concat_meets ⟨_,ho,rfl⟩ ⟨_,ho2,rfl⟩ noFill_tuple_add seq_tuple_add PySem.F.slot_tuple_add PySem.F.entry_tuple_add (PySem.F.args_tuple_add_2 _ _)
   (tuple_addW1 t b vs.toArray ws.toArray n n2 dd dd2 sl sl2 (by simpa using hv) (by simp [hw])) ⟨ho,ho2,h1 hw⟩
 ·refine concat_meets ⟨_,ho,rfl⟩ ⟨_,ho2,rfl⟩ noFill_tuple_add seq_tuple_add PySem.F.slot_tuple_add PySem.F.entry_tuple_add (PySem.F.args_tuple_add_2 _ _)
   (tuple_addW2 t b vs.toArray ws.toArray n n2 dd dd2 sl sl2 (by simpa using hv) (by simpa using hw) (by rw [List.size_toArray,List.size_toArray];exact hsz)) ⟨ho,ho2,?_⟩
  rw [e];exact h2 hw
def sIx (n d:Nat):Option Int->Nat
 | none=>d
 | some v=>if v < 0 then(v+(n:Int)).toNat else min v.toNat n
theorem sIx_none (n d:Nat):sIx n d none=d:=rfl
theorem sIx_nat (n d k:Nat):sIx n d (some (k:Int))=min k n:=by
 show(if (k:Int) < 0 then((k:Int)+(n:Int)).toNat else min (k:Int).toNat n)=min k n
 rw [if_neg (by omega),Int.toNat_natCast]
theorem sIx_le (n d:Nat)(hd:d<=n)(o:Option Int):sIx n d o<=n:=by
 cases o with
 | none=>exact hd
 | some v =>
  show(if v < 0 then(v+(n:Int)).toNat else min v.toNat n)<=n
  by_cases hv:v < 0
  ·rw [if_pos hv];omega
  ·rw [if_neg hv];exact Nat.min_le_right _ _
theorem clip_eq (v:Int)(n d:Nat):(if v < 0 then max (v+(n:Int)) 0 else min v (n:Int))=((sIx n d (some v):Nat):Int):=by
 show(if v < 0 then max (v+(n:Int)) 0 else min v (n:Int))=(((if v < 0 then(v+(n:Int)).toNat else min v.toNat n):Nat):Int)
 by_cases hv:v < 0
 ·simp only [if_pos hv];omega
 ·simp only [if_neg hv];omega
theorem adjust_gen (lo hi:Option Int)(n:Nat):Builtin.Slice.sliceAdjust lo hi 1 (n:Int)=(((sIx n 0 lo:Nat):Int),((sIx n n hi:Nat):Int)):=by
 have h1:¬ ((1:Int) < 0):=by omega
 unfold Builtin.Slice.sliceAdjust;simp only [h1,if_false];refine Prod.ext ?_ ?_
 ·cases lo with
  | none=>rfl
  | some v=>exact clip_eq v n 0
 ·cases hi with
  | none=>rfl
  | some v=>exact clip_eq v n n
theorem places_gen (i j : Nat) : Builtin.Slice.slicePlaces (i : Int) (j : Int) 1 = j - i := by
  unfold Builtin.Slice.slicePlaces
  have h1 : (1 : Int) > 0 := by omega
  simp only [h1, if_true, Int.ediv_one]
  split <;> omega
theorem slicePart_ {v:Value}{o:Option Int}{Q:Option Int->Shared->Prop}(p:IsPart v o)(h:Q o s):wpAny (model prog w) A (Builtin.Slice.slicePartIndex v) Q E s:=by
 cases p with
 | none=>exact slicePart_none h
 | int i t=>exact slicePart_int h
theorem sliceApplied_gen {sl:Addr}{vl vu:Value}{lo hi:Option Int}{n:Nat}{Q:Int×Int×Nat->Shared->Prop}(hs:s.heap.IsSliceOf sl vl vu .none)(pl:IsPart vl lo)(pu:IsPart vu hi)
  (h:Q (((sIx n 0 lo:Nat):Int),1,sIx n n hi - sIx n 0 lo) s):wpAny (model prog w) A (Builtin.Slice.sliceApplied (.ref sl) (pure (n:Int))) Q E s:=by
 obtain⟨os,hos,hcs,hds⟩:=id hs;unfold Builtin.Slice.sliceApplied Builtin.Slice.sliceFields;refine wpAny_bind (wpAny_bind (wpAny_field hos hds (x:=vl) rfl (wpAny_bind (wpAny_field hos hds (x:=vu) rfl (wpAny_bind (wpAny_field hos hds (x:=.none) rfl (wpAny_pure ?_)))))))
 refine wpAny_bind (slicePart_none ?_)
 show wpAny _ _ (if ((1:Int)==0)=true then _ else _) _ _ s
 rw [if_neg (by decide)];refine wpAny_bind (slicePart_ pl (wpAny_bind (slicePart_ pu (wpAny_bind (wpAny_pure ?_)))))
 show wpAny _ _ (match Builtin.Slice.sliceAdjust lo hi 1 (n:Int) with | (lo,hi)=>pure (lo,(1:Int),Builtin.Slice.slicePlaces lo hi 1)) _ _ s
 rw [adjust_gen lo hi n];show wpAny _ _ (pure (((sIx n 0 lo:Nat):Int),(1:Int),Builtin.Slice.slicePlaces ((sIx n 0 lo:Nat):Int) ((sIx n n hi:Nat):Int) 1)) _ _ s
 rw [places_gen];exact wpAny_pure h
theorem pick_gen (xs:Array Value)(i k:Nat):((List.range k).filterMap fun(m:Nat)=>xs[((i:Int)+(m:Int)*1).toNat]?).toArray=((xs.toList.drop i).take k).toArray:=by
 have e:(fun(m:Nat)=>xs[((i:Int)+(m:Int)*1).toNat]?)=fun m=>xs[i+m]?:=by
  funext m
  have:((i:Int)+(m:Int)*1).toNat=i+m:=by omega
  rw [this]
 rw [e];have:=pick_run xs i k
 rw [List.filterMap_map] at this;have e2:((fun x=>xs[x]?) ∘ fun x=>i+x)=fun m=>xs[i+m]?:=rfl
 rw [e2] at this;rw [this]
theorem getItem_tuple_cut {t sl:Addr}{items:Array Value}{vl vu:Value}{lo hi:Option Int}{Q:Value->Shared->Prop}(ht:IsTup s.heap t items)(hs:s.heap.IsSliceOf sl vl vu .none)(pl:IsPart vl lo)(pu:IsPart vu hi)
  (hw:¬ (sIx items.size 0 lo=0/\sIx items.size items.size hi=items.size))
  (h:Q (.ref s.heap.objs.size) {s with heap:=s.heap.push {cls:=.type "tuple",data:=.seq ((items.toList.drop (sIx items.size 0 lo)).take (sIx items.size items.size hi - sIx items.size 0 lo)).toArray}})
  (hsz:items.size<=sizeLine):wpAny (model prog w) A (getItem (.ref t) (.ref sl)) Q E s:=by
 have htake:sizeOk (.seq ((items.toList.drop (sIx items.size 0 lo)).take (sIx items.size items.size hi - sIx items.size 0 lo)).toArray):=by
  show((items.toList.drop (sIx items.size 0 lo)).take (sIx items.size items.size hi - sIx items.size 0 lo)).toArray.size<=sizeLine
  rw [List.size_toArray,List.length_take,List.length_drop,Array.length_toList];omega
 have hj:sIx items.size items.size hi<=items.size:=sIx_le _ _ (Nat.le_refl _) hi
 obtain⟨os,hos,hcs,hds⟩:=id hs;have hTs:s.TypeIs (.ref sl) "slice" := ⟨os,hos,hcs⟩
 unfold getItem
 try with_reducible refine wpAny_holding ?_
 first | refine wpAny_bind (wpAny_pure ?_) | skip
 refine wpAny_bind (wpAny_sequenceKey ht.typeIs (by decide) ?_)
 refine wpAny_bind (wpAny_callSpecial?_slot (name:=Str.ofString "__getitem__") ht.typeIs PyProof.Rows.slot_tuple_getitem
  (wpAny_call_entry PyProof.Rows.slot_tuple_getitem ht.typeIs entry_tuple_getitem ?_ (args_tuple_getitem _ _)))
 show wpAny _ _ (Builtin.Tuple.tupleItemsOf (.ref t) >>= _) _ _ s
 refine wpAny_bind (tupleItemsOf_ ht ?_)
 refine wpAny_bind (wpAny_typeOf hTs ?_)
 rw [if_pos (by decide)];refine wpAny_bind (sliceApplied_gen hs pl pu ?_)
 have hno:¬ ((((sIx items.size 0 lo:Nat):Int)==0&&(1:Int)==1&&(sIx items.size items.size hi - sIx items.size 0 lo)==items.size)=true):=by
  intro q;rw [Bool.and_eq_true,Bool.and_eq_true] at q;have q1:((sIx items.size 0 lo:Nat):Int)=0:=eq_of_beq q.1.1
  have q2:sIx items.size items.size hi - sIx items.size 0 lo=items.size:=eq_of_beq q.2
  exact hw ⟨by omega,by omega⟩
 show wpAny _ _ (if (((sIx items.size 0 lo:Nat):Int)==0&&(1:Int)==1&&(sIx items.size items.size hi - sIx items.size 0 lo)==items.size)=true then _ else _) _ _ s
 rw [if_neg hno,pick_gen]
 first
  | exact wpAny_bind (m:=Builtin.Tuple.tupleExact _) (wpAny_newObj_type (wpAny_pure ⟨_,rfl,wpAny_pure h⟩) htake)
  | exact wpAny_bind (m:=Builtin.Tuple.tupleExact _) (wpAny_newObj_type (wpAny_bind (wpAny_pure (wpAny_pure ⟨_,rfl,wpAny_pure h⟩))) htake)
  | exact wpAny_bind (wpAny_bind (m:=Builtin.Tuple.tupleExact _) (wpAny_newObj_type (wpAny_pure (wpAny_pure ⟨_,rfl,wpAny_pure h⟩)) htake))
  | exact wpAny_bind (wpAny_bind (m:=Builtin.Tuple.tupleExact _) (wpAny_newObj_type (wpAny_pure ⟨_,rfl,wpAny_pure h⟩) htake))
end
end HT
namespace L2
open PySem PySem.Spec PyProof.Rows
abbrev TO:=St->Hp->(Option Int->Hp->Prop)->Prop
def PO (X:Cx)(e:Option Expr)(t:TO):Prop :=
 ∀ (pins:List (Addr×Obj))(s:Shared)(σ:St)(H:Hp)(Q:Option Int->Hp->Prop),Inv X pins σ H s->t σ H Q ->
  wpAny (model X.prog X.w) X.A (evalPart e X.env) (fun u s'=>∃ o H',Inv X pins σ H' s'/\IsPart u o/\Q o H') X.xe s
def tNoPart:TO:=fun _ H Q=>Q none H
def tPart (t:TE):TO:=fun σ H Q=>t σ H fun x H1=>∃ i,x=.int i/\Q (some i) H1
theorem intsAre_of {ns:List Int}:∀ {us:List Value},Vals (ns.map V.int) us->IntsAre us ns:=by
 induction ns with
 | nil=>intro us r;rw [List.map_nil] at r;cases r;exact .nil
 | cons n ns ih =>
  intro us r;rw [List.map_cons] at r;cases r with
  | cons r1 r2 =>
   obtain⟨t,e⟩:=r1;subst e;exact .cons n t (ih r2)
section
variable {X:Cx}{e:Expr}{te:TE}{lo hi:Option Expr}{tl th:TO}{pos p2:Pos}
theorem eX:PO X none tNoPart:=by
 intro pins s σ H Q I h;rw [evalPart_none];exact wpAny_pure ⟨none,H,I,.none,h⟩
theorem dL (h:PE X e te):PO X (some e) (tPart te):=by
 intro pins s σ H Q I hw;rw [evalPart_some];refine thn (h pins s σ H _ I hw) fun u s1 ⟨x,H1,I1,r1,q1⟩=>?_
 obtain⟨i,rfl,q⟩:=q1;obtain⟨t,rfl⟩:=r1;exact⟨some i,H1,I1,.int i t,q⟩
def SlR (X:Cx)(r:V->Option Int->Option Int->Hp->VK->Prop):Prop :=
 ∀ (pins:List (Addr×Obj))(s:Shared)(σ:St)(H:Hp)(x:V)(v vl vu:Value)(lo hi:Option Int)(sl:Addr)(Q:VK),Inv X pins σ H s->RelV x v->s.heap.IsSliceOf sl vl vu .none->IsPart vl lo->IsPart vu hi->r x lo hi H Q ->
  ∃ T id,typeLookup (.type T) "__getitem__" = pure (some (.builtin id))/\s.TypeIs v T/\wpAny (model X.prog X.w) X.A (getItem v (.ref sl)) (EP X pins σ Q) X.xe s
def tSl (r:V->Option Int->Option Int->Hp->VK->Prop)(te:TE)(tl th:TO):TE:=fun σ H Q=>te σ H fun x H1=>tl σ H1 fun l H2=>th σ H2 fun u H3=>r x l u H3 Q
theorem cS {r:V->Option Int->Option Int->Hp->VK->Prop}(hr:SlR X r)(he:PE X e te)(hl:PO X lo tl)(hu:PO X hi th):PE X (.Subscript e (.Slice lo hi none p2) pos) (tSl r te tl th):=by
 intro pins s σ H Q I h;refine Subscript_ (thn (he pins s σ H _ I h) fun v s1 ⟨x,H1,I1,r1,q1⟩=>?_)
 refine wpAny_Slice (thn (hl pins s1 σ H1 _ I1 q1) fun vl s2 ⟨l,H2,I2,pl,q2⟩=>thn (hu pins s2 σ H2 _ I2 q2) fun vu s3 ⟨u,H3,I3,pu,q3⟩=>?_)
 rw [evalPart_none];refine wpAny_pure ?_
 have I4:Inv X pins σ H3 {s3 with heap:=s3.heap.push {cls:=.type "slice",data:=.fields #[vl,vu,.none]}}:=I3.kept (t':=s3.toks) fun b ob q=>Heap.get?_push_of_some _ q
 obtain⟨T,id,hT,ht,hg⟩:=hr pins {s3 with heap:=s3.heap.push {cls:=.type "slice",data:=.fields #[vl,vu,.none]}} σ H3 x v vl vu l u s3.heap.objs.size Q I4 r1 (Heap.IsSliceOf.new ..) pl pu q3
 show wpAny (model X.prog X.w) X.A (subscriptTail e (.Slice lo hi none p2) v (.ref s3.heap.objs.size)) (EP X pins σ Q) X.xe {s3 with heap:=s3.heap.push {cls:=.type "slice",data:=.fields #[vl,vu,.none]}}
 exact tail_any (ops:=[.ref s3.heap.objs.size,v]) ht hT hg (by with_unfolding_all rfl)
def kC (xs:List V)(lo hi:Option Int):List V:=(xs.drop (HT.sIx xs.length 0 lo)).take (HT.sIx xs.length xs.length hi - HT.sIx xs.length 0 lo)
theorem cutV_length (xs:List V)(lo hi:Option Int):(kC xs lo hi).length<=xs.length:=by
 unfold kC;rw [List.length_take,List.length_drop];omega
def rSlT (K:W.Frag):V->Option Int->Option Int->Hp->VK->Prop:=fun x lo hi H Q=>∃ a xs,x=.ref a/\SqT K H a xs /\
 ¬ (HT.sIx xs.length 0 lo=0/\HT.sIx xs.length xs.length hi=xs.length)/\∀ p,H p=none->Q (.ref p) (upd H p (.tup (kC xs lo hi)))
theorem sl_tup:SlR X (rSlT X.K):=by
 intro pins s σ H x v vl vu lo hi sl Q I rx hs pl pu h;obtain⟨a,xs,rfl,hx,hw,q⟩:=h;cases rx;obtain⟨its,r,ht,hz⟩:=I.tuple hx;have hlen:its.toArray.size=xs.length:=by rw [List.size_toArray];exact r.length.symm
 refine⟨"tuple",_,PyProof.Rows.slot_tuple_getitem.lookup,ht.typeIs,?_⟩
 refine HT.getItem_tuple_cut ht hs pl pu (by rw [hlen];exact hw) ?_ (by rw [hlen];exact hz)
 rw [hlen];refine⟨.ref s.heap.objs.size,_,I.laid (t':=s.toks) (o:=.tup (kC xs lo hi)) (fun b ob q=>Heap.get?_push_of_some _ q) (Nat.le_refl _) ?_,rfl,q _ (I.hok.fresh (Nat.le_refl _))⟩
 exact⟨Nat.le_trans (cutV_length xs lo hi) hz,_,(r.drop (HT.sIx xs.length 0 lo)).take (HT.sIx xs.length xs.length hi - HT.sIx xs.length 0 lo),IsTupD.new _ _⟩
def rCatT (K:W.Frag):R2:=fun x y H Q=>∃ a b xs ys,x=.ref a/\y=.ref b/\SqT K H a xs/\SqT K H b ys/\xs≠[]/\xs.length+ys.length<=sizeLine /\
 (ys=[]->Q (.ref a) H)/\(ys≠[]->∀ p,H p=none->Q (.ref p) (upd H p (.tup (xs++ys))))
theorem Vals.nil_iff {xs:List V}{us:List Value}(r:Vals xs us):us=[]↔xs=[]:=by
 cases r with
 | nil=>simp
 | cons _ _=>simp
theorem op_catT:OpR X (binaryOp .Add) (rCatT X.K):=by
 intro pins s σ H x y v u Q I rx ry h;obtain⟨a,b,xs,ys,rfl,rfl,ha,hb,hx,hz,q1,q2⟩:=h;cases rx;cases ry;obtain⟨its,r1,p1,_⟩:=I.tuple ha;obtain⟨its2,r2,p2,_⟩:=I.tuple hb;refine HT.cat_tup p1 p2 (fun z=>hx (r1.nil_iff.mp z)) (fun z=>⟨.ref a,H,I,rfl,q1 (r2.nil_iff.mp z)⟩) (fun z=>?_) (by rw [<-r1.length,<-r2.length];exact hz)
 refine⟨.ref s.heap.objs.size,_,I.laid (t':=s.toks) (o:=.tup (xs++ys)) (fun b ob q=>Heap.get?_push_of_some _ q) (Nat.le_refl _) ?_,rfl,q2 (fun w=>z (r2.nil_iff.mpr w)) _ (I.hok.fresh (Nat.le_refl _))⟩
 exact⟨by rw [List.length_append];exact hz,_,r1.append r2,IsTupD.new _ _⟩
end
end L2
namespace L2
open PySem PySem.Spec PyProof.Rows
def ixN (n:Nat) (i:Int):Option Nat:=if 0<=i then(if i < n then some i.toNat else none) else if -(n:Int)<=i then some (i+n).toNat else none
def atI {α:Type}(xs:List α) (i:Int):Option α:=(ixN xs.length i).bind fun j=>xs[j]?
theorem ixN_seq {n:Nat}{i:Int}{j:Nat}(h:ixN n i=some j):seqIndex? i n=some j/\j < n/\-(n:Int)<=i/\i < n:=by
 unfold ixN at h;by_cases h0:0<=i
 ·rw [if_pos h0] at h;by_cases h1:i < n
  ·rw [if_pos h1] at h;have e:i.toNat=j:=Option.some.inj h
   exact⟨by rw [seqIndex_of h0 h1,e],by omega,by omega,h1⟩
  ·rw [if_neg h1] at h;cases h
 ·rw [if_neg h0] at h;by_cases h1:-(n:Int)<=i
  ·rw [if_pos h1] at h;have e:(i+n).toNat=j:=Option.some.inj h
   exact⟨by rw [seqIndex_neg (by omega) h1,e],by omega,h1,by omega⟩
  ·rw [if_neg h1] at h;cases h
theorem atI_get {α:Type}{xs:List α}{i:Int}{v:α}(h:atI xs i=some v):∃ j,seqIndex? i xs.length=some j/\xs[j]?=some v/\j < xs.length/\-(xs.length:Int)<=i/\i < xs.length:=by
 unfold atI at h;cases e:ixN xs.length i with
 | none=>rw [e] at h;cases h
 | some j =>
  rw [e] at h;obtain⟨h1,h2,h3,h4⟩:=ixN_seq e;exact⟨j,h1,h,h2,h3,h4⟩
theorem aV {α:Type}{xs:List α}{j:Nat}{v:α}(h:xs[j]?=some v):atI xs (j:Int)=some v:=by
 have hj:j < xs.length:=(List.getElem?_eq_some_iff.mp h).1
 have e:ixN xs.length (j:Int)=some j:=by
  unfold ixN;rw [if_pos (by omega),if_pos (by omega)];simp
 unfold atI;rw [e];exact h
def PlainIx (b:Expr):Prop:=∀ o i,subscripted b false o i=operate [o,i] (getItem o i)
def IxR (X:Cx)(r:R2):Prop :=
 ∀ (value slice:Expr)(pins:List (Addr×Obj))(s:Shared)(σ:St)(H:Hp)(x y:V)(v u:Value)(Q:VK),Inv X pins σ H s->RelV x v->RelV y u->r x y H Q ->
  subscripted slice false v u=operate [v,u] (getItem v u)->wpAny (model X.prog X.w) X.A (subscriptTail value slice v u) (EP X pins σ Q) X.xe s
def MtR (X:Cx)(id:String)(r:V->List V->Hp->VK->Prop):Prop :=
 ∀ (pins:List (Addr×Obj))(s:Shared)(σ:St)(H:Hp)(x:V)(xs:List V)(v:Value)(us:List Value)(Q:VK),Inv X pins σ H s->RelV x v->Vals xs us->r x xs H Q ->
  wpAny (model X.prog X.w) X.A (call (.builtin id) (v::us)) (EP X pins σ Q) X.xe s
section
variable {X:Cx}{a b:Expr}{ta tb:TE}{pos:Pos}
theorem aN {r:R2}(hr:IxR X r)(ha:PE X a ta)(hb:PE X b tb)(hs:PlainIx b):PE X (.Subscript a b pos) (tOp r ta tb):=by
 intro pins s σ H Q I h;exact Subscript_ (binT ha hb I h fun v u s2 x y H2 I2 rx ry q=>hr a b pins s2 σ H2 x y v u Q I2 rx ry q (hs _ _))
def rIxL (K:W.Frag):R2:=fun x y H Q=>∃ p xs i v,x=.ref p/\y=.int i/\SqL K H p xs/\atI xs i=some v/\Q v H
def rIxT (K:W.Frag):R2:=fun x y H Q=>∃ p xs i v,x=.ref p/\y=.int i/\SqT K H p xs/\atI xs i=some v/\Q v H
theorem aP:IxR X (rIxL X.K):=by
 intro value slice pins s σ H x y v u Q I rx ry h hs;obtain⟨p,xs,i,z,rfl,rfl,hq,he,q⟩:=h;cases rx;obtain⟨t,rfl⟩:=ry;obtain⟨its,r,pl,hz⟩:=I.list hq;obtain⟨j,h1,h2,h3,h4,h5⟩:=atI_get he;obtain⟨w,ew,rw'⟩:=r.get h2;have hl:=r.length;have hn:=line63;have fin:EP X pins σ Q w s:=⟨z,H,I,rw',q⟩
 by_cases h0:0<=i
 ·have hj:i.toNat=j:=by
   rw [seqIndex_of h0 h5] at h1;exact Option.some.inj h1
  exact item_listR pl.isList h0 (by omega) (by rw [hj];simpa using ew) fin hs
 ·have hj:(i+(its.toArray.size:Int)).toNat=j:=by
   rw [seqIndex_neg (by omega) h4] at h1;rw [List.size_toArray,<-hl];exact Option.some.inj h1
  exact subscriptTail_builtinR (x:=w) pl.isList.typeIs slot_list_getitem.lookup
   (wpAny_getItem_list_neg (Q:=fun r s'=>r=w/\EP X pins σ Q r s') pl.isList (by omega) (by rw [List.size_toArray] <;> omega) (by omega) (by rw [hj];simpa using ew) ⟨rfl,fin⟩) hs
theorem cI:IxR X (rIxT X.K):=by
 intro value slice pins s σ H x y v u Q I rx ry h hs;obtain⟨p,xs,i,z,rfl,rfl,hq,he,q⟩:=h;cases rx;obtain⟨t,rfl⟩:=ry;obtain⟨its,r,pl,hz⟩:=I.tuple hq;obtain⟨j,h1,h2,h3,h4,h5⟩:=atI_get he;obtain⟨w,ew,rw'⟩:=r.get h2;have hl:=r.length;have hn:=line63;have fin:EP X pins σ Q w s:=⟨z,H,I,rw',q⟩
 exact subscriptTail_builtinR (x:=w) pl.typeIs slot_tuple_getitem.lookup
  (getItem_tuple (j:=j) (Q:=fun r s'=>r=w/\EP X pins σ Q r s') pl (by omega) (by omega) (by rw [List.size_toArray,<-hl];exact h1) (by simpa using ew) ⟨rfl,fin⟩) hs
theorem slice_bounds (lo hi:Option Int)(n:Nat):(sliceBounds lo hi none n).1=((HT.sIx n 0 lo:Nat):Int)/\(sliceBounds lo hi none n).2.1=((HT.sIx n n hi:Nat):Int)/\(sliceBounds lo hi none n).2.2=1:=by
 refine⟨?_,?_,rfl⟩
 ·cases lo with
  | none=>simp [sliceBounds,HT.sIx]
  | some i =>
   simp only [sliceBounds,HT.sIx,Option.getD_none,show(1:Int) > 0 by decide,if_true]
   by_cases h:i < 0
   ·simp only [h,if_true] <;> omega
   ·simp only [h,if_false] <;> omega
 ·cases hi with
  | none=>simp [sliceBounds,HT.sIx]
  | some i =>
   simp only [sliceBounds,HT.sIx,Option.getD_none,show(1:Int) > 0 by decide,if_true]
   by_cases h:i < 0
   ·simp only [h,if_true] <;> omega
   ·simp only [h,if_false] <;> omega
theorem slicePick_cut (its:List Value)(lo hi:Option Int):slicePick its.toArray lo hi none=((its.drop (HT.sIx its.length 0 lo)).take (HT.sIx its.length its.length hi - HT.sIx its.length 0 lo)).toArray:=by
 obtain⟨h1,h2,h3⟩:=slice_bounds lo hi its.toArray.size;unfold slicePick;rw [h1,h2,h3];simp only [sliceRange_one,pick_run,List.size_toArray] <;> rfl
def rSlL (K:W.Frag):V->Option Int->Option Int->Hp->VK->Prop:=fun x lo hi H Q=>∃ a xs,x=.ref a/\SqL K H a xs/\∀ p,H p=none->Q (.ref p) (upd H p (.lst (kC xs lo hi)))
theorem iU:SlR X (rSlL X.K):=by
 intro pins s σ H x v vl vu lo hi sl Q I rx hs pl pu h;obtain⟨a,xs,rfl,hx,q⟩:=h;cases rx;obtain⟨its,r,ht,hz⟩:=I.list hx;have hlen:=r.length;refine⟨"list",_,slot_list_getitem.lookup,ht.isList.typeIs,?_⟩
 refine wpAny_getItem_list_slice ht.isList hs pl pu .none (by simp) ?_ (by rw [List.size_toArray] <;> omega)
 rw [slicePick_cut,<-hlen];refine⟨.ref s.heap.objs.size,_,I.laid (t':=s.toks) (o:=.lst (kC xs lo hi)) (fun b ob q=>Heap.get?_push_of_some _ q) (Nat.le_refl _) ?_,rfl,q _ (I.hok.fresh (Nat.le_refl _))⟩
 exact⟨Nat.le_trans (cutV_length xs lo hi) hz,_,0,(r.drop (HT.sIx xs.length 0 lo)).take (HT.sIx xs.length xs.length hi - HT.sIx xs.length 0 lo),Heap.get?_push_size _ rfl⟩
def flatV:V->Bool
 | .non=>true
 | .bl _=>true
 | .int _=>true
 | .str _=>true
 | _=>false
def eqV:V->V->Bool
 | .non,.non=>true
 | .bl a,.bl b=>a==b
 | .bl a,.int b=>(if a then 1 else 0)==b
 | .int a,.bl b=>a==(if b then 1 else 0)
 | .int a,.int b=>a==b
 | .str a,.str b=>a==b
 | _,_=>false
theorem eqAt_V {A:Around}{s:Shared}{y x:V}{u v:Value}(ry:RelV y u)(rx:RelV x v)(fy:flatV y=true)(fx:flatV x=true):SeqAt.EqAt A s u v (eqV y x):=by
 cases y with
 | non =>
  cases ry;cases x with
  | non=>cases rx;exact SeqAt.EqAt.same _
  | bl b=>cases rx;exact SeqAt.EqAt.none_bool b
  | int b=>obtain⟨t,rfl⟩:=rx;exact SeqAt.EqAt.none_int b t
  | str b=>obtain⟨t,rfl⟩:=rx;exact SeqAt.EqAt.none_str b t
  | _=>exact absurd (show false=true from fx) Bool.false_ne_true
 | bl a =>
  cases ry;cases x with
  | non=>cases rx;exact SeqAt.EqAt.bool_none a
  | bl b=>cases rx;exact SeqAt.EqAt.bool_bool a b
  | int b=>obtain⟨t,rfl⟩:=rx;exact SeqAt.EqAt.bool_int a b t
  | str b=>obtain⟨t,rfl⟩:=rx;exact SeqAt.EqAt.bool_str a b t
  | _=>exact absurd (show false=true from fx) Bool.false_ne_true
 | int a =>
  obtain⟨t',rfl⟩:=ry;cases x with
  | non=>cases rx;exact SeqAt.EqAt.int_none a t'
  | bl b=>cases rx;exact SeqAt.EqAt.int_bool a t' b
  | int b=>obtain⟨t,rfl⟩:=rx;exact SeqAt.EqAt.int_int a t' b t
  | str b=>obtain⟨t,rfl⟩:=rx;exact SeqAt.EqAt.int_str a t' b t
  | _=>exact absurd (show false=true from fx) Bool.false_ne_true
 | str a =>
  obtain⟨t',rfl⟩:=ry;cases x with
  | non=>cases rx;exact SeqAt.EqAt.str_none a t'
  | bl b=>cases rx;exact SeqAt.EqAt.str_bool a t' b
  | int b=>obtain⟨t,rfl⟩:=rx;exact SeqAt.EqAt.str_int a t' b t
  | str b=>obtain⟨t,rfl⟩:=rx;exact SeqAt.EqAt.str_str a t' b t
  | _=>exact absurd (show false=true from fx) Bool.false_ne_true
 | _=>exact absurd (show false=true from fy) Bool.false_ne_true
def eqU (x:V)(u:Value):Bool:=match u with
 | .none=>eqV .non x
 | .bool b=>eqV (.bl b) x
 | .int i _=>eqV (.int i) x
 | .str z _=>eqV (.str z) x
 | _=>false
theorem eqU_of {x y:V}{u:Value}(r:RelV y u)(f:flatV y=true):eqU x u=eqV y x:=by
 cases y with
 | non=>cases r;rfl
 | bl b=>cases r;rfl
 | int i=>obtain⟨t,rfl⟩:=r;rfl
 | str z=>obtain⟨t,rfl⟩:=r;rfl
 | _=>exact absurd (show false=true from f) Bool.false_ne_true
theorem any_eqU {x:V}:∀ {xs:List V}{us:List Value},Vals xs us->xs.all flatV=true->us.any (eqU x)=xs.any fun y=>eqV y x
 | _,_,.nil,_=>rfl
 | y::xs,u::us,.cons r t,f=>by
  rw [List.all_cons,Bool.and_eq_true] at f;rw [List.any_cons,List.any_cons,eqU_of r f.1,any_eqU t f.2]
theorem mem_eqAt {A:Around}{s:Shared}{x:V}{v:Value}(rx:RelV x v)(fx:flatV x=true):∀ {xs:List V}{us:List Value},Vals xs us->xs.all flatV=true->∀ u∈us,SeqAt.EqAt A s u v (eqU x u)
 | _,_,.nil,_=>fun u hu=>by cases hu
 | y::xs,u::us,.cons r t,f=>fun u' hu=>by
  rw [List.all_cons,Bool.and_eq_true] at f;rcases List.mem_cons.mp hu with rfl | hu
  ·rw [eqU_of r f.1];exact eqAt_V r rx f.1 fx
  ·exact mem_eqAt rx fx t f.2 u' hu
def inV (x:V)(xs:List V):Bool:=xs.any fun y=>eqV y x
def rIn (K:W.Frag)(neg:Bool):R2:=fun x y H Q=>∃ p xs,y=.ref p/\(SqL K H p xs\/SqT K H p xs)/\flatV x=true/\xs.all flatV=true/\Q (.bl (if neg then !inV x xs else inV x xs)) H
theorem op_in_seq:OpR X (compareOp .In) (rIn X.K false):=by
 intro pins s σ H x y v u Q I rx ry h;obtain⟨p,xs,rfl,hq,fx,fs,q⟩:=h;cases ry;rcases hq with hq | hq
 ·obtain⟨its,r,pl,hz⟩:=I.list hq;refine SeqAt.in_listAt (eqU x) pl.isList (fun w hw=>mem_eqAt rx fx r fs w (by simpa using hw)) ⟨.bl _,H,I,rfl,?_⟩
  rw [show its.toArray.any (eqU x)=its.any (eqU x) by simp,any_eqU r fs]
  exact q
 ·obtain⟨its,r,pl,hz⟩:=I.tuple hq;refine SeqAt.in_tupleAt (eqU x) pl (fun w hw=>mem_eqAt rx fx r fs w (by simpa using hw)) ⟨.bl _,H,I,rfl,?_⟩
  rw [show its.toArray.any (eqU x)=its.any (eqU x) by simp,any_eqU r fs]
  exact q
theorem op_notIn_seq:OpR X (compareOp .NotIn) (rIn X.K true):=by
 intro pins s σ H x y v u Q I rx ry h;obtain⟨p,xs,rfl,hq,fx,fs,q⟩:=h;cases ry;rcases hq with hq | hq
 ·obtain⟨its,r,pl,hz⟩:=I.list hq;refine SeqAt.notIn_listAt (eqU x) pl.isList (fun w hw=>mem_eqAt rx fx r fs w (by simpa using hw)) ⟨.bl _,H,I,rfl,?_⟩
  rw [show its.toArray.any (eqU x)=its.any (eqU x) by simp,any_eqU r fs]
  exact q
 ·obtain⟨its,r,pl,hz⟩:=I.tuple hq;refine SeqAt.notIn_tupleAt (eqU x) pl (fun w hw=>mem_eqAt rx fx r fs w (by simpa using hw)) ⟨.bl _,H,I,rfl,?_⟩
  rw [show its.toArray.any (eqU x)=its.any (eqU x) by simp,any_eqU r fs]
  exact q
theorem call_len_seq:CallR X (.builtin "len") (fun xs H Q=>∃ p ys,xs=[.ref p]/\(SqL X.K H p ys\/SqT X.K H p ys)/\Q (.int ys.length) H):=by
 intro pins s σ H xs us Q I r h;obtain⟨p,ys,rfl,hq,q⟩:=h;obtain⟨u,rfl,rx⟩:=vals1 r;cases rx;have hn:=line63;rcases hq with hq | hq
 ·obtain⟨its,r',pl,hz⟩:=I.list hq;have hlen:=r'.length;exact Calls.call_len_list pl.isList (by simp only [List.size_toArray] <;> omega) ⟨.int ys.length,H,I.tok _,⟨s.toks+1,by rw [List.size_toArray,hlen]⟩,q⟩
 ·obtain⟨its,r',pl,hz⟩:=I.tuple hq;have hlen:=r'.length;exact len_tuple pl (by simp only [List.size_toArray] <;> omega) ⟨.int ys.length,H,I.tok _,⟨s.toks+1,by rw [List.size_toArray,hlen]⟩,q⟩
theorem CallR.or {f:Value}{r r':List V->Hp->VK->Prop}(h:CallR X f r)(h':CallR X f r'):CallR X f (fun xs H Q=>r xs H Q\/r' xs H Q):=by
 intro pins s σ H xs us Q I rs q;rcases q with q | q
 ·exact h pins s σ H xs us Q I rs q
 ·exact h' pins s σ H xs us Q I rs q
theorem call_list_of:CallR X (.type "list") (fun xs H Q=>∃ p ys,xs=[.ref p]/\(SqL X.K H p ys\/SqT X.K H p ys)/\∀ l,H l=none->Q (.ref l) (upd H l (.lst ys))):=by
 intro pins s σ H xs us Q I r h;obtain⟨p,ys,rfl,hq,q⟩:=h;obtain⟨u,rfl,rx⟩:=vals1 r;cases rx
 have fin:∀ (its:List Value),Vals ys its->ys.length<=sizeLine->∀ (h':Heap)(c':Nat),(∀ b o',s.heap.get? b=some o'->h'.get? b=some o') ->
   h'.get? s.heap.objs.size=some {cls:=.type "list",dict:=none,data:=.seq its.toArray c',slots:=#[]}->EP X pins σ Q (.ref s.heap.objs.size) {s with heap:=h'}:=fun its r' hz h' c' kp e =>
  ⟨.ref s.heap.objs.size,_,I.laid (t':=s.toks) kp (Nat.le_refl _) (show ObjOk X.prog X.w _ h' _ (.lst ys) from⟨hz,its,c',r',e⟩),rfl,q _ (I.hok.fresh (Nat.le_refl _))⟩
 rcases hq with hq | hq
 ·obtain⟨its,r',pl,hz⟩:=I.list hq;have hlen:=r'.length;obtain⟨o,ho,hc,n,hd⟩:=pl.isList;exact call_list_seq p (.inl rfl) ho hc hd (fun h' c' kp e=>fin its r' hz h' c' kp e) (by simp only [List.size_toArray] <;> omega)
 ·obtain⟨its,r',pl,hz⟩:=I.tuple hq;have hlen:=r'.length;obtain⟨o,ho,hc,n,hd⟩:=pl;exact call_list_seq p (.inr rfl) ho hc hd (fun h' c' kp e=>fin its r' hz h' c' kp e) (by simp only [List.size_toArray] <;> omega)
theorem dP:CallR X (.type "tuple") (fun xs H Q=>∃ p ys,xs=[.ref p]/\((SqL X.K H p ys/\∀ l,H l=none->Q (.ref l) (upd H l (.tup ys)))\/(SqT X.K H p ys/\Q (.ref p) H))):=by
 intro pins s σ H xs us Q I r h;obtain⟨p,ys,rfl,h⟩:=h;obtain⟨u,rfl,rx⟩:=vals1 r;cases rx;rcases h with ⟨hq,q⟩ | ⟨hq,q⟩
 ·obtain⟨its,r',pl,hz⟩:=I.list hq;have hlen:=r'.length;refine call_tuple_list pl.isList (fun h' kp=>?_) (by simp only [List.size_toArray] <;> omega)
  have I1:Inv X pins σ H {s with heap:=h'}:=I.kept (t':=s.toks) kp
  have I2:Inv X pins σ (upd H h'.objs.size (.tup ys)) {s with heap:=h'.push {cls:=.type "tuple",data:=.seq its.toArray}} :=
   I1.laid (t':=s.toks) (fun b o e=>Heap.get?_push_of_some _ e) (Nat.le_refl _) (show ObjOk X.prog X.w _ _ _ (.tup ys) from⟨hz,its,r',IsTupD.new _ _⟩)
  exact⟨.ref h'.objs.size,_,I2,rfl,q _ (I1.hok.fresh (Nat.le_refl _))⟩
 ·obtain⟨its,r',pl,hz⟩:=I.tuple hq;exact call_tuple_same pl ⟨.ref p,H,I,rfl,q⟩
def tyV (K:W.Frag)(T:String)(x:V)(H:Hp):Prop:=match x with
 | .str _=>T = "str"
 | .int _=>T = "int"
 | .ref p=>(T = "list" /\ ∃ xs,SqL K H p xs)\/(T = "tuple" /\ ∃ o,K.lookup p=some o/\o.cls=.type "tuple" /\ o.dict=none) \/
   (T = "dict" /\ ((∃ kvs,H p=some (.dK kvs))\/∃ kvs,H p=some (.dT kvs)))\/(T = "set" /\ ∃ S n,H p=some (.set S n))
 | _=>False
theorem tyV_is {pins:List (Addr×Obj)}{σ:St}{H:Hp}{s:Shared}{T:String}{x:V}{v:Value}(I:Inv X pins σ H s)(r:RelV x v)(ty:tyV X.K T x H) :
  s.TypeIs v T/\∀ a,v=.ref a->∃ ob,s.heap.get? a=some ob/\ob.dict=none:=by
 cases x with
 | str z =>
  obtain⟨t,rfl⟩:=r;cases (show T = "str" from ty)
  exact⟨typeIs_str s z t,fun _ e=>nomatch e⟩
 | int i =>
  obtain⟨t,rfl⟩:=r;cases (show T = "int" from ty)
  exact⟨typeIs_int s i t,fun _ e=>nomatch e⟩
 | ref p =>
  cases r;rcases ty with ⟨rfl,xs,hq⟩ | ⟨rfl,o,hk,hc,hd⟩ | ⟨rfl,hk⟩ | ⟨rfl,S,n,hk⟩
  ·obtain⟨its,_,pl,_⟩:=I.list hq;refine⟨pl.isList.typeIs,fun a e=>?_⟩
   cases e;obtain⟨o,n,e,c,hd,_⟩:=pl;exact⟨o,e,hd⟩
  ·refine⟨⟨o,I.kIn p o hk,hc⟩,fun a e=>?_⟩
   cases e;exact⟨o,I.kIn _ o hk,hd⟩
  ·have z:∃ o,s.heap.get? p=some o/\o.ExactDict:=by
    rcases hk with ⟨kvs,hk⟩ | ⟨kvs,hk⟩
    ·obtain⟨_,_,_,_,o,_,_,e,ex,_⟩:=I.hok p _ hk;exact⟨o,e,ex⟩
    ·obtain⟨_,_,_,_,o,_,_,e,ex,_⟩:=I.hok p _ hk;exact⟨o,e,ex⟩
   obtain⟨o,e,ex⟩:=z;refine⟨⟨o,e,ex.1⟩,fun a e2=>?_⟩
   cases e2;exact⟨o,e,ex.2.1⟩
  ·obtain⟨o,_,_,_,e,ex,_⟩:=I.hok p _ hk;refine⟨⟨o,e,ex.1⟩,fun a e2=>?_⟩
   cases e2;exact⟨o,e,ex.2.1⟩
 | _=>exact False.elim ty
def tBM (K:W.Frag)(T:String)(r:V->List V->Hp->VK->Prop)(to:TE)(t:TA):TE:=fun σ H Q=>to σ H fun x H1=>tyV K T x H1/\t σ H1 fun xs H2=>r x xs H2 Q
variable {o e:Expr}{es:List Expr}{to:TE}{t:TA}{name:Str}{apos cpos:Pos}{T id:String}{r:V->List V->Hp->VK->Prop}
theorem jA (pa:PlainAttrs T)(slot:Slot T name id)(hty:typeOf (.builtin id)=pure (.type "method_descriptor"))(hm:MtR X id r)(ho:PE X o to)(ha:PA X (e::es) t)
  (hbase:attributeBase o name X.env (eval o X.env)=eval o X.env:=by rfl)
  (hfew:((backTo cpos (starEach (e::es) X.env)).all (fun x=>!x.1)&&(backToKw cpos (keywordEach [] X.env)).all (fun x=>x.1.isSome)
   && decide ((e::es).length+([]:List Keyword).length+(if ([]:List Keyword).isEmpty then 0 else 1) < 30))=true:=by rfl)
  (hline:(apos.endLine==cpos.line)=true:=by rfl)(hs:starEach (e::es) X.env=(false,eval e X.env)::starEach es X.env:=by rfl)(hplain:(backTo cpos (starEach es X.env)).any (·.1)=false:=by rfl) :
  PE X (.Call (.Attribute o name apos) (e::es) [] cpos) (tBM X.K T r to t):=by
 intro pins s σ H Q I h;refine wpAny_Call_method_late hbase hfew hline rfl (thn (ho pins s σ H _ I h) fun v s1 ⟨x,H1,I1,r1,ty,q1⟩=>?_)
 obtain⟨h1,h2⟩:=tyV_is I1 r1 ty;refine⟨T,id,pa,slot,hty,h1,h2,?_⟩
 have hA:=ha cpos pins s1 σ H1 _ I1 q1;rw [hs] at hA ⊢;refine Calls.callWith_builtin (by show(false||(backTo cpos (starEach es X.env)).any (·.1))=false;rw [hplain] <;> rfl) (Calls.evalArgs_plain ?_)
 exact thn hA fun us s2 ⟨vs,H2,I2,r2,q2⟩=>hm pins s2 σ H2 x vs v us Q I2 r1 r2 q2
end
end L2
namespace L2
open PySem PySem.Spec PyProof.Rows
def MtM (X:Cx)(id:String)(r:V->List V->Hp->VK->Prop):Prop :=
 ∀ (pins:List (Addr×Obj))(s:Shared)(σ:St)(H:Hp)(x:V)(xs:List V)(v:Value)(us:List Value)(Q:VK),Inv X pins σ H s->RelV x v->Vals xs us->r x xs H Q ->
  wpAny (model X.prog X.w) X.A (call (.builtin id) (v::us)) (EP X pins σ Q) X.xe s
theorem Vals.one:∀ {x:V}{us:List Value},Vals [x] us->∃ u,us=[u]/\RelV x u
 | _,_,.cons r .nil=>⟨_,rfl,r⟩
section
variable {X:Cx}{pins:List (Addr×Obj)}{σ:St}{H:Hp}{s:Shared}{l b:Addr}{xs ys zs:List V}
theorem Inv.lset {its its':List Value}{n:Nat}{f:Array Value->Array Value}{t':Nat}(I:Inv X pins σ H s)(hH:H l=some (.lst xs))
  (e:s.heap.get? l=some {cls:=.type "list",data:=.seq its.toArray n})(hf:f its.toArray=its'.toArray)(hv:Vals ys its')(hz:ys.length<=sizeLine) :
  Inv X pins σ (upd H l (.lst ys)) {s with heap:=s.heap.update l (Obj.mapSeq f),toks:=t'}:=by
 have q:=PySem.IsL.update e f;rw [hf] at q;refine I.write (x:=l) (e:=l) (by rw [hH];exact trivial) (.inl rfl) (fun b' u hb hu=>(Heap.get?_update_other s.heap (Obj.mapSeq f) (Ne.symm hb)).trans hu) ⟨_,q⟩ ?_
 exact⟨hz,its',_,hv,q⟩
theorem Inv.lnew {its:List Value}{t':Nat}(I:Inv X pins σ H s)(hv:Vals ys its)(hz:ys.length<=sizeLine) :
  Inv X pins σ (upd H s.heap.objs.size (.lst ys)) {s with heap:=s.heap.push {cls:=.type "list",data:=.seq its.toArray},toks:=t'} :=
 I.laid (fun _ _ q=>Heap.get?_push_of_some _ q) (Nat.le_refl _) ⟨hz,its,0,hv,Heap.get?_push_size _ rfl⟩
theorem Inv.fresh (I:Inv X pins σ H s):H s.heap.objs.size=none:=I.hok.fresh (Nat.le_refl _)
theorem Inv.lstM (I:Inv X pins σ H s)(hH:H l=some (.lst xs)):xs.length<=sizeLine/\∃ (its:List Value)(n:Nat),Vals xs its/\xs.length=its.length/\s.heap.get? l=some {cls:=.type "list",data:=.seq its.toArray n}:=by
 obtain⟨z,its,n,r,e⟩:=I.hok l _ hH;exact⟨z,its,n,r,r.length,e⟩
theorem notLongL {n:Nat}(h:n<=sizeLine):Builtin.List.listTooLong n=false:=by
 unfold Builtin.List.listTooLong;exact decide_eq_false (by omega)
end
section
variable {X:Cx}
def rAppend:V->List V->Hp->VK->Prop:=fun x vs H Q=>∃ l xs y,x=.ref l/\vs=[y]/\H l=some (.lst xs)/\xs.length < sizeLine/\Q .non (upd H l (.lst (xs++[y])))
theorem dA:MtM X "list.append" rAppend:=by
 intro pins s σ H x vs v us Q I rx rv h;obtain⟨l,xs,y,rfl,rfl,hH,hz,q⟩:=h;cases rx;obtain⟨u,rfl,ru⟩:=rv.one;obtain⟨z,its,n,r,hl,e⟩:=I.lstM hH;refine call_meets F.slot_list_append ⟨_,e,rfl⟩ F.entry_list_append (F.args_list_append_2 _ _) (PySem.list_append l its.toArray n u (by rw [List.size_toArray];omega)) ⟨e,?_⟩
 refine⟨.non,_,I.lset (its':=its++[u]) hH e (by simp) (r.append (.cons ru .nil)) ?_,rfl,q⟩
 rw [List.length_append,List.length_singleton];omega
def rExtend:V->List V->Hp->VK->Prop:=fun x vs H Q=>∃ l b xs zs,x=.ref l/\vs=[.ref b]/\H l=some (.lst xs)/\H b=some (.lst zs)/\xs.length+zs.length<=sizeLine/\Q .non (upd H l (.lst (xs++zs)))
theorem mt_extend:MtM X "list.extend" rExtend:=by
 intro pins s σ H x vs v us Q I rx rv h;obtain⟨l,b,xs,zs,rfl,rfl,hH,hB,hz,q⟩:=h;cases rx;obtain⟨u,rfl,ru⟩:=rv.one;cases ru;obtain⟨z,its,n,r,hl,e⟩:=I.lstM hH;obtain⟨z2,its2,n2,r2,hl2,e2⟩:=I.lstM hB;have hsz:its.toArray.size+its2.toArray.size<=sizeLine:=by rw [List.size_toArray,List.size_toArray];omega
 have hlong:¬ (!its.toArray.isEmpty&&Builtin.List.listTooLong (its.toArray.size+its2.toArray.size))=true:=by
  rw [notLongL hsz,Bool.and_false];exact Bool.false_ne_true
 refine call_meets F.slot_list_extend ⟨_,e,rfl⟩ F.entry_list_extend (F.args_list_extend_2 _ _)
  (AutoSeq1.list_extend_list_list_0 l its.toArray n b its2.toArray n2 hlong (by rw [List.size_toArray];omega) (by omega)) ⟨e,e2,?_⟩
 refine⟨.non,_,I.lset (its':=its++its2) hH e (by simp) (r.append r2) ?_,rfl,q⟩
 rw [List.length_append];omega
def rCat:R2:=fun x y H Q=>∃ l b xs zs,x=.ref l/\y=.ref b/\H l=some (.lst xs)/\H b=some (.lst zs)/\xs.length+zs.length<=sizeLine/\∀ p,H p=none->Q (.ref p) (upd H p (.lst (xs++zs)))
theorem op_cat:OpR X (binaryOp .Add) rCat:=by
 intro pins s σ H x y v u Q I rx ry h;obtain⟨l,b,xs,zs,rfl,rfl,hH,hB,hz,q⟩:=h;cases rx;cases ry;obtain⟨z,its,n,r,hl,e⟩:=I.lstM hH;obtain⟨z2,its2,n2,r2,hl2,e2⟩:=I.lstM hB;refine PySem.P.add_list e e2 ?_ (by rw [List.size_toArray,List.size_toArray];omega)
 have ea:its.toArray++its2.toArray=(its++its2).toArray:=by simp
 rw [ea];exact⟨.ref _,_,I.lnew (t':=s.toks) (r.append r2) (by rw [List.length_append];omega),rfl,q _ I.fresh⟩
end
end L2
namespace L2
open PySem PySem.Spec PyProof.Rows
theorem vals_of_ints:∀ {us:List Value}{ns:List Int},IntsAre us ns->Vals (ns.map V.int) us
 | _,_,.nil=>by rw [List.map_nil];exact Paired.nil
 | _,_,.cons n t h=>by rw [List.map_cons];exact Paired.cons (show RelV (V.int n) (Value.int n t) from⟨t,rfl⟩) (vals_of_ints h)
theorem Vals.bls:∀ {bs:List Bool}{us:List Value},Vals (bs.map V.bl) us->us=bs.map Value.bool
 | [],us,h=>by
  rw [List.map_nil] at h;cases h;rfl
 | b::bs,us,h=>by
  rw [List.map_cons] at h;cases h with
  | cons r t =>
   cases r;rw [Vals.bls t,List.map_cons]
theorem Vals.ref1 {a:Addr}{us:List Value}(r:Vals [V.ref a] us):us=[Value.ref a]:=by
 cases r with
 | cons r t =>
  cases t;cases r;rfl
section
variable {X:Cx}
theorem small64 {n:Nat}(h:n < 64):n<=sizeLine:=by rw [sizeLine_eq];omega
end
theorem iter_any {prog:Program}{w:World}{A:Around}{E:Value->Shared->Prop}{s:Shared}{l:Addr}{items:Array Value}{Q:Value->Shared->Prop}(hl:s.heap.IsList l items)
  (h:∀ s₂:Shared,s₂={s with heap:=s.heap.push {cls:=.type "list_iterator",data:=.fields #[.ref l,.int 0 0]}} ->
   (s₂.heap.IsListIter s.heap.objs.size l 0/\s₂.heap.IsList l items)->l≠s.heap.objs.size->Q (.ref s.heap.objs.size) s₂):wpAny (model prog w) A (pyIter (.ref l)) Q E s:=by
 have hlt:l < s.heap.objs.size:=by obtain⟨_,e,_⟩:=hl;exact Heap.lt_size e
 exact wpAny_pyIter_list hl (h _ rfl ⟨⟨_,Heap.get?_push_size _ rfl,rfl,rfl⟩,hl.push _⟩ (Nat.ne_of_lt hlt))
theorem truth_bools {prog:Program}{w:World}{A:Around}{bs:List Bool}{its:List Value}(e:its=bs.map Value.bool) :
  TruthOf prog w A (fun i v=>its.toArray[i]?=some v) (fun i=>bs.getD i false):=fun i v s Q E hv hq=>by
 have hv':its[i]?=some v:=by simpa using hv
 rw [e,List.getElem?_map] at hv';obtain⟨b,hb,rfl⟩:=Option.map_eq_some_iff.mp hv';have hg:bs.getD i false=b:=by rw [List.getD_eq_getElem?_getD,hb] <;> rfl
 have hq':Q (bs.getD i false) s:=hq
 rw [hg] at hq';exact wpAny_truthy_bool hq'
theorem any_range:∀ bs:List Bool,(List.range bs.length).any (fun i=>bs.getD i false)=bs.any id
 | []=>rfl
 | b::bs=>by
  rw [List.length_cons,List.range_succ_eq_map,List.any_cons,List.any_map,List.any_cons,<-any_range bs]
  all_goals rfl
theorem all_range:∀ bs:List Bool,(List.range bs.length).all (fun i=>bs.getD i false)=bs.all id
 | []=>rfl
 | b::bs=>by
  rw [List.length_cons,List.range_succ_eq_map,List.all_cons,List.all_map,List.all_cons,<-all_range bs]
  all_goals rfl
section
variable {X:Cx}
def rAny (K:W.Frag):List V->Hp->VK->Prop:=fun vs H Q=>∃ (a:Addr)(bs:List Bool),vs=[V.ref a]/\SqL K H a (bs.map V.bl)/\Q (.bl (bs.any id)) H
def rAll (K:W.Frag):List V->Hp->VK->Prop:=fun vs H Q=>∃ (a:Addr)(bs:List Bool),vs=[V.ref a]/\SqL K H a (bs.map V.bl)/\Q (.bl (bs.all id)) H
theorem cr_any (hc:X.calm=true):CallR X (.builtin "any") (rAny X.K):=by
 intro pins s σ H vs us Q I r h;obtain⟨a,bs,rfl,hs,q⟩:=h;obtain⟨its,rv,hl,_⟩:=I.list hs;rw [Vals.ref1 r];have hb:=rv.bls;refine call_any_walk (iter_any hl.isList fun s₂ e2 st hne=>?_)
 subst e2;refine⟨_,_,_,_,_,_,_,rfl,Walks.list (A:=X.A.in1) (I.ok.hd hc) _ a hne its.toArray,st,truth_bools hb,fun h' tk hk=>?_⟩
 refine⟨.bl _,H,I.kept fun b o eo=>hk b o (fun hmem=>?_) (Heap.get?_push_of_some _ eo),?_,q⟩
 ·rcases List.mem_cons.mp hmem with e1 | hmem
  ·exact absurd (e1 ▸ Heap.lt_size eo) (Nat.lt_irrefl _)
  ·cases hmem
 ·show Value.bool _=Value.bool _
  rw [<-any_range,hb,List.size_toArray,List.length_map]
theorem cr_all (hc:X.calm=true):CallR X (.builtin "all") (rAll X.K):=by
 intro pins s σ H vs us Q I r h;obtain⟨a,bs,rfl,hs,q⟩:=h;obtain⟨its,rv,hl,_⟩:=I.list hs;rw [Vals.ref1 r];have hb:=rv.bls;refine call_all_walk (iter_any hl.isList fun s₂ e2 st hne=>?_)
 subst e2;refine⟨_,_,_,_,_,_,_,rfl,Walks.list (A:=X.A.in1) (I.ok.hd hc) _ a hne its.toArray,st,truth_bools hb,fun h' tk hk=>?_⟩
 refine⟨.bl _,H,I.kept fun b o eo=>hk b o (fun hmem=>?_) (Heap.get?_push_of_some _ eo),?_,q⟩
 ·rcases List.mem_cons.mp hmem with e1 | hmem
  ·exact absurd (e1 ▸ Heap.lt_size eo) (Nat.lt_irrefl _)
  ·cases hmem
 ·show Value.bool _=Value.bool _
  rw [<-all_range,hb,List.size_toArray,List.length_map]
end
mutual
inductive Dp (K:W.Frag)(H:Hp):V->PyData->Prop
 | non:Dp K H .non .none
 | bl (b:Bool):Dp K H (.bl b) (.bool b)
 | int (i:Int):Dp K H (.int i) (.int i)
 | str (x:Str):Dp K H (.str x) (.str x)
 | lst {a:Addr}{xs:List V}{ds:List PyData}:SqL K H a xs->DpAll K H xs ds->Dp K H (.ref a) (.list ds)
 | tup {a:Addr}{xs:List V}{ds:List PyData}:SqT K H a xs->DpAll K H xs ds->Dp K H (.ref a) (.tuple ds)
inductive DpAll (K:W.Frag)(H:Hp):List V->List PyData->Prop
 | nil:DpAll K H [] []
 | cons {v:V}{vs:List V}{d:PyData}{ds:List PyData}:Dp K H v d->DpAll K H vs ds->DpAll K H (v::vs) (d::ds)
end
section
variable {X:Cx}{pins:List (Addr×Obj)}{σ:St}{H:Hp}{s:Shared}
mutual
theorem Dp.reads (I:Inv X pins σ H s):∀ (d:PyData)(v:V)(u:Value),Dp X.K H v d->RelV v u->∃ as,Reads s.heap u d as
 | .none,_,_,h,r=>by
  cases h;cases r;exact⟨_,Reads.none⟩
 | .bool b,_,_,h,r=>by
  cases h;cases r;exact⟨_,Reads.bool b⟩
 | .int i,_,_,h,r=>by
  cases h;obtain⟨t,rfl⟩:=r;exact⟨_,Reads.int i t⟩
 | .str x,_,_,h,r=>by
  cases h;obtain⟨t,rfl⟩:=r;exact⟨_,Reads.str x t⟩
 | .list ds,_,_,h,r=>by
  cases h with
  | lst hs ha =>
   cases r;obtain⟨its,rv,⟨o,n,ho,hc,_,hd⟩,_⟩:=I.list hs;obtain⟨as,hr⟩:=Dp.readsAll I ds _ its ha rv;exact⟨_,Reads.list ho hc hd hr⟩
 | .tuple ds,_,_,h,r=>by
  cases h with
  | tup hs ha =>
   cases r;obtain⟨its,rv,⟨o,ho,hc,n,hd⟩,_⟩:=I.tuple hs;obtain⟨as,hr⟩:=Dp.readsAll I ds _ its ha rv;exact⟨_,Reads.tuple ho hc hd hr⟩
 | .dict _,_,_,h,_=>by cases h
theorem Dp.readsAll (I:Inv X pins σ H s):∀ (ds:List PyData)(vs:List V)(us:List Value),DpAll X.K H vs ds->Vals vs us->∃ as,ReadsAll s.heap us ds as
 | [],_,_,h,r=>by
  cases h;cases r;exact⟨_,ReadsAll.nil⟩
 | d::ds,_,_,h,r=>by
  cases h with
  | cons h1 h2 =>
   cases r with
   | cons r1 r2 =>
    obtain⟨as,q1⟩:=Dp.reads I d _ _ h1 r1;obtain⟨bs,q2⟩:=Dp.readsAll I ds _ _ h2 r2;exact⟨_,ReadsAll.cons q1 q2⟩
end
end
section
variable {X:Cx}
def rEqD (K:W.Frag):R2:=fun x y H Q=>∃ d e,Dp K H x d/\Dp K H y e/\SeqAt.shaped d=true/\SeqAt.shaped e=true/\Q (.bl (PyData.eqv d e)) H
def rNeD (K:W.Frag):R2:=fun x y H Q=>∃ d e,Dp K H x d/\Dp K H y e/\SeqAt.shaped d=true/\SeqAt.shaped e=true/\Q (.bl (!PyData.eqv d e)) H
theorem op_eqD (hu:X.A.units+64 < cLine):OpR X (compareOp .Eq) (rEqD X.K):=by
 intro pins s σ H x y v u Q I rx ry h;obtain⟨d,e,hd,he,sd,se,q⟩:=h;obtain⟨as,r1⟩:=Dp.reads I d x v hd rx;obtain⟨bs,r2⟩:=Dp.reads I e y u he ry;exact SeqAt.compareEq_shaped r1 r2 sd se hu ⟨.bl _,H,I,rfl,q⟩
theorem op_neD (hu:X.A.units+64 < cLine):OpR X (compareOp .NotEq) (rNeD X.K):=by
 intro pins s σ H x y v u Q I rx ry h;obtain⟨d,e,hd,he,sd,se,q⟩:=h;obtain⟨as,r1⟩:=Dp.reads I d x v hd rx;obtain⟨bs,r2⟩:=Dp.reads I e y u he ry;exact SeqAt.compareNe_shaped r1 r2 sd se hu ⟨.bl _,H,I,rfl,q⟩
end
end L2
namespace L2
open PySem PySem.Spec PyProof.Rows
abbrev CellAt (h:Heap)(c:Addr)(v:Option Value):Prop:=h.IsCell c v
def relS (scope sc:Scope):Scope :=
 {scope with names:=scope.names.map fun(n,k)=>if (k==.free&&sc.kind==.function&&sc.names.lookup n==some .cell) then(n,.cell) else(n,k)}
def bR (cells:List (Str×Addr)):List (Str×NameKind)->List (Str×Addr)->List (Str×Addr)
 | [],acc=>acc
 | (n,k)::r,acc=>if k==.free then bR cells r ((n,(cells.lookup n).getD 0)::acc) else bR cells r acc
theorem closure_loop (env:Env)(f:Str×NameKind->List (Str×Addr)->Sem (ForInStep (List (Str×Addr))))
  (hf:∀ n k c,f (n,k) c=if k==.free then(do let a <-cellOf env n;pure (.yield ((n,a)::c))) else pure (.yield c)) :
  ∀ (names:List (Str×NameKind))(acc:List (Str×Addr)),(∀ y∈names,y.2=.free->∃ c,env.cells.lookup y.1=some c)->forIn names acc f=pure (bR env.cells names acc)
 | [],acc,_=>by rw [List.forIn_nil];rfl
 | (n,k)::r,acc,h=>by
  rw [List.forIn_cons,hf];have ih:=fun acc=>closure_loop env f hf r acc fun y hy=>h y (List.mem_cons_of_mem _ hy)
  unfold bR;by_cases hk:(k==NameKind.free)=true
  ·rw [if_pos hk,if_pos hk];obtain⟨c,hc⟩:=h (n,k) List.mem_cons_self (by simpa using hk)
   have e:cellOf env n=pure c:=by unfold cellOf;rw [hc]
   rw [e];have e2:(env.cells.lookup n).getD 0=c:=by rw [hc];rfl
   rw [e2];exact ih _
  ·rw [if_neg hk,if_neg hk];exact ih _
theorem closure_ok {scope:Scope}{env:Env}(h:∀ y∈scope.names,y.2=.free->∃ c,env.cells.lookup y.1=some c):closureFor scope env=pure (bR env.cells scope.names []):=by
 simp only [closureFor];rw [closure_loop env _ (fun n k c=>rfl) scope.names [] h]
 rfl
theorem mem_lookup {α:Type}:∀ {l:List (Str×α)}{n:Str}{c:α},(n,c)∈l->∃ c',l.lookup n=some c'
 | (k,v)::r,n,c,h=>by
  rw [List.lookup_cons];cases hb:n==k with
  | true=>exact⟨_,rfl⟩
  | false =>
   rcases List.mem_cons.mp h with e | h
   ·cases e;simp at hb
   ·exact mem_lookup h
theorem cloFrom_mem {cells:List (Str×Addr)}:∀ {names:List (Str×NameKind)}{acc:List (Str×Addr)}{n:Str}{c:Addr},(n,c)∈bR cells names acc->(n,c)∈acc\/((n,.free)∈names/\c=(cells.lookup n).getD 0)
 | [],_,_,_,h=>.inl h
 | (m,k)::r,acc,n,c,h=>by
  unfold bR at h;split at h
  ·rename_i hk
   have hk:k=.free:=by simpa using hk
   rcases cloFrom_mem h with h | ⟨h1,h2⟩
   ·rcases List.mem_cons.mp h with e | h
    ·cases e;exact .inr ⟨hk ▸ List.mem_cons_self,rfl⟩
    ·exact .inl h
   ·exact .inr ⟨List.mem_cons_of_mem _ h1,h2⟩
  ·rcases cloFrom_mem h with h | ⟨h1,h2⟩
   ·exact .inl h
   ·exact .inr ⟨List.mem_cons_of_mem _ h1,h2⟩
theorem cloFrom_acc {cells:List (Str×Addr)}:∀ {names:List (Str×NameKind)}{acc:List (Str×Addr)}{p:Str×Addr},p∈acc->p∈bR cells names acc
 | [],_,_,h=>h
 | (m,k)::r,acc,p,h=>by
  unfold bR;split
  ·exact cloFrom_acc (List.mem_cons_of_mem _ h)
  ·exact cloFrom_acc h
theorem cloFrom_has {cells:List (Str×Addr)}:∀ {names:List (Str×NameKind)}{acc:List (Str×Addr)}{n:Str},(n,.free)∈names->(n,(cells.lookup n).getD 0)∈bR cells names acc
 | (m,k)::r,acc,n,h=>by
  unfold bR;rcases List.mem_cons.mp h with e | h
  ·cases e;exact cloFrom_acc List.mem_cons_self
  ·split
   ·exact cloFrom_has h
   ·exact cloFrom_has h
theorem cells_mem:∀ {names:List (Str×NameKind)}{h:Heap}{acc:List (Str×Addr)}{x:Str}{c:Addr},(x,c)∈cellsFrom h.objs.size names acc ->
  (x,c)∈acc\/((x,.cell)∈names/\h.objs.size<=c/\CellAt (pushCells h names) c none)
 | [],_,_,_,_,h=>.inl h
 | (n,k)::r,h,acc,x,c,hm=>by
  unfold cellsFrom at hm;unfold pushCells;split at hm
  ·rename_i hk
   rw [if_pos hk];have hk:k=.cell:=by simpa using hk
   rw [<-Heap.size_push h {cls:=.type "cell",data:=.cell none}] at hm;rcases cells_mem hm with hm | ⟨h1,h2,h3⟩
   ·rcases List.mem_cons.mp hm with e | hm
    ·cases e;exact .inr ⟨hk ▸ List.mem_cons_self,Nat.le_refl _,_,pushCells_keeps r _ _ _ (Heap.get?_push_size _ rfl),rfl⟩
    ·exact .inl hm
   ·rw [Heap.size_push] at h2;exact .inr ⟨List.mem_cons_of_mem _ h1,Nat.le_of_succ_le h2,h3⟩
  ·rename_i hk
   rw [if_neg hk];rcases cells_mem hm with hm | ⟨h1,h2,h3⟩
   ·exact .inl hm
   ·exact .inr ⟨List.mem_cons_of_mem _ h1,h2,h3⟩
theorem cells_acc:∀ {names:List (Str×NameKind)}{n:Nat}{acc:List (Str×Addr)}{p:Str×Addr},p∈acc->p∈cellsFrom n names acc
 | [],_,_,_,h=>h
 | (m,k)::r,n,acc,p,h=>by
  unfold cellsFrom;split
  ·exact cells_acc (List.mem_cons_of_mem _ h)
  ·exact cells_acc h
theorem cells_has:∀ {names:List (Str×NameKind)}{n:Nat}{acc:List (Str×Addr)}{x:Str},(x,.cell)∈names->∃ c,(x,c)∈cellsFrom n names acc
 | (m,k)::r,n,acc,x,h=>by
  unfold cellsFrom;rcases List.mem_cons.mp h with e | h
  ·cases e;exact⟨n,cells_acc List.mem_cons_self⟩
  ·split
   ·exact cells_has h
   ·exact cells_has h
theorem cells_inj:∀ {names:List (Str×NameKind)}{h:Heap}{acc:List (Str×Addr)}{x y:Str}{c:Addr},(∀ p∈acc,p.2 < h.objs.size)->(∀ x y c,(x,c)∈acc->(y,c)∈acc->x=y) ->
  (x,c)∈cellsFrom h.objs.size names acc->(y,c)∈cellsFrom h.objs.size names acc->x=y
 | [],_,_,_,_,_,_,hi,h1,h2=>hi _ _ _ h1 h2
 | (n,k)::r,h,acc,x,y,c,hl,hi,h1,h2=>by
  unfold cellsFrom at h1 h2;split at h1
  ·rename_i hk
   rw [if_pos hk] at h2;rw [<-Heap.size_push h {cls:=.type "cell",data:=.cell none}] at h1 h2;refine cells_inj (h:=h.push _) (fun p hp=>?_) (fun x y c a b=>?_) h1 h2
   ·rw [Heap.size_push];rcases List.mem_cons.mp hp with rfl | hp
    ·exact Nat.lt_succ_self _
    ·exact Nat.lt_succ_of_lt (hl p hp)
   ·rcases List.mem_cons.mp a with e | a <;> rcases List.mem_cons.mp b with e' | b
    ·cases e;cases e';rfl
    ·cases e;exact absurd (hl _ b) (Nat.lt_irrefl _)
    ·cases e';exact absurd (hl _ a) (Nat.lt_irrefl _)
    ·exact hi _ _ _ a b
  ·rename_i hk
   rw [if_neg hk] at h2;exact cells_inj hl hi h1 h2
theorem newEnv_comp {M:Model}{A:Around}{E:Value->Shared->Prop}{s:Shared}{scope:Scope}{globals:Addr}{closure:List (Str×Addr)}{qual:Str}{func:Option Addr}{code:Value}{around:Env}{builtins:Addr}{Q:Env->Shared->Prop}
  (h:Q (newEnv scope s.heap.objs.size globals (cellsFrom (s.heap.objs.size+1) scope.names closure) qual func code (some around) builtins)
   {s with heap:=pushCells (s.heap.push {cls:=.type "dict",data:=.dict #[]}) scope.names}) :
  wpAny M A (newFunctionEnv scope globals closure [] qual func code (some around) builtins) Q E s:=by
 simp only [newFunctionEnv,Option.isSome_some,if_true];refine wpAny_bind (wpAny_alloc ?_)
 refine wpAny_bind (wpAny_layCells _ (fun n k c=>rfl) scope.names closure _ _ ?_)
 rw [show({s with heap:=s.heap.push {cls:=.type "dict",data:=.dict #[]}}:Shared).heap.objs.size=s.heap.objs.size+1 from Heap.size_push ..]
 rw [List.forIn_nil];exact wpAny_bind (wpAny_pure (wpAny_pure h))
theorem lookup_relS {sc:Scope}:∀ {names:List (Str×NameKind)}{x:Str}{k:NameKind},
  (names.map fun(n,k)=>if (k==NameKind.free&&sc.kind==.function&&sc.names.lookup n==some .cell) then(n,NameKind.cell) else(n,k)).lookup x=some k ->
  ∃ k',names.lookup x=some k'/\(k=k'\/(k'=.free/\k=.cell))
 | [],_,_,h=>by simp at h
 | (n,k₀)::r,x,k,h=>by
  have ih:=@lookup_relS sc r x k;have h':List.lookup x ((if (k₀==NameKind.free&&sc.kind==.function&&sc.names.lookup n==some .cell)=true then(n,NameKind.cell) else(n,k₀))::(r.map _))=some k:=h
  cases hx:x==n with
  | true =>
   simp only [List.lookup_cons,hx];by_cases hc:(k₀==NameKind.free&&sc.kind==.function&&sc.names.lookup n==some .cell)=true
   ·rw [if_pos hc] at h';simp only [List.lookup_cons,hx] at h';cases h';simp only [Bool.and_eq_true,beq_iff_eq] at hc;exact⟨k₀,rfl,.inr ⟨hc.1.1,rfl⟩⟩
   ·rw [if_neg hc] at h';simp only [List.lookup_cons,hx] at h';cases h';exact⟨_,rfl,.inl rfl⟩
  | false =>
   simp only [List.lookup_cons,hx];by_cases hc:(k₀==NameKind.free&&sc.kind==.function&&sc.names.lookup n==some .cell)=true
   ·rw [if_pos hc] at h';simp only [List.lookup_cons,hx] at h';exact ih h'
   ·rw [if_neg hc] at h';simp only [List.lookup_cons,hx] at h';exact ih h'
structure BlkOk (N:List Str)(sc scope:Scope)(own:List (Str×Nat)):Prop where
 kind:scope.kind=.function
 uniq:∀ y∈scope.names,scope.names.lookup y.1=some y.2
 ix:∀ p∈own,N[p.2]?=some p.1
 free:∀ y∈scope.names,y.2=.free->sc.names.lookup y.1=some .cell\/sc.names.lookup y.1=some .free
 own:∀ y∈scope.names,y.2=.local\/y.2=.cell->y.1∈own.map (·.1)\/y.1 ∉ N
def bX (σ:St):List Nat->St
 | []=>σ
 | v::vs=>(bX σ vs).set v none
theorem wipe_length (σ:St):∀ vs:List Nat,(bX σ vs).length=σ.length
 | []=>rfl
 | v::vs=>by unfold bX;rw [List.length_set,wipe_length σ vs]
theorem wipe_some {σ:St}{i:Nat}{x:V}:∀ {vs:List Nat},(bX σ vs)[i]?=some (some x)->σ[i]?=some (some x)/\i ∉ vs
 | [],h=>⟨h,by simp⟩
 | v::vs,h=>by
  unfold bX at h;by_cases hi:v=i
  ·subst hi;by_cases hv:v < (bX σ vs).length
   ·rw [List.getElem?_set_self hv] at h;cases h
   ·rw [List.getElem?_eq_none (by simpa using hv)] at h;cases h
  ·rw [List.getElem?_set_ne hi] at h;obtain⟨h1,h2⟩:=wipe_some h;exact⟨h1,by simp only [List.mem_cons,not_or];exact⟨fun e=>hi e.symm,h2⟩⟩
abbrev Cx.blk (X:Cx)(s:Shared)(H:Hp)(scope:Scope)(cenv:Env)(fp:List Addr):Cx:={X with s_0:=s,H_0:=H,env:=cenv,outer:=X.stack,ex:=fp,fn:=fun x=>scope.names.lookup x==some .cell,pn:=[],xe:=fun _ _=>False}
section
variable {X:Cx}{pins:List (Addr×Obj)}{σ:St}{H:Hp}{s:Shared}
theorem block_start {scope:Scope}{own:List (Str×Nat)}{fp:List Addr}(I:Inv X pins σ H s)(ok:BlkOk X.N X.env.scope scope own)(hN:X.N.Nodup)(hfp:∀ b∈fp,FpOk X pins H b/\b < s.heap.objs.size) :
  Inv (X.blk s H scope (compEnvC scope (cellsFrom (s.heap.objs.size+1) scope.names (bR X.env.cells scope.names [])) s.heap.objs.size X.env) fp) [] (bX σ (own.map (·.2))) H {s with heap:=pushCells (s.heap.push {cls:=.type "dict",data:=.dict #[]}) scope.names}:=by
 have hfree:∀ y∈scope.names,y.2=.free->∃ c,X.env.cells.lookup y.1=some c:=fun y hy e=>by
  rcases ok.free y hy e with k | k
  ·exact I.ok.has _ (.inl k)
  ·exact I.ok.has _ (.inr k)
 generalize hcenv:compEnvC scope (cellsFrom (s.heap.objs.size+1) scope.names (bR X.env.cells scope.names [])) s.heap.objs.size X.env=cenv;have kp:∀ b o,s.heap.get? b=some o->(pushCells (s.heap.push {cls:=.type "dict",data:=.dict #[]}) scope.names).get? b=some o:=fun b o e=>pushCells_keeps _ _ _ _ (Heap.get?_push_of_some _ e)
 have hL:cenv.locals=s.heap.objs.size:=by rw [<-hcenv];rfl
 have hcl:cenv.cells=cellsFrom (s.heap.objs.size+1) scope.names (bR X.env.cells scope.names []):=by rw [<-hcenv];rfl
 have hsc:cenv.scope=relS scope X.env.scope:=by rw [<-hcenv];rfl
 rw [<-Heap.size_push s.heap {cls:=.type "dict",data:=.dict #[]}] at hcl
 have cm:∀ {y c},(y,c)∈bR X.env.cells scope.names []->X.env.cells.lookup y=some c/\c < s.heap.objs.size:=fun {y c} hm=>by
  rcases cloFrom_mem hm with hm | ⟨h1,rfl⟩
  ·cases hm
  ·obtain⟨c,hc⟩:=hfree _ h1 rfl;rw [hc];obtain⟨w,z⟩:=I.cell _ _ hc;exact⟨rfl,z.lt⟩
 have mem:∀ {y c},cenv.cells.lookup y=some c->(X.env.cells.lookup y=some c/\c < s.heap.objs.size)\/(s.heap.objs.size+1<=c/\CellAt (pushCells (s.heap.push {cls:=.type "dict",data:=.dict #[]}) scope.names) c none):=fun {y c} e=>by
  rw [hcl] at e;rcases cells_mem (PySem.mem_of_lookup e) with hm | ⟨_,h2,h3⟩
  ·exact .inl (cm hm)
  ·rw [Heap.size_push] at h2;exact .inr ⟨h2,h3⟩
 have look:∀ {y},scope.names.lookup y=some .free->∃ c,cenv.cells.lookup y=some c/\X.env.cells.lookup y=some c:=fun {y} hl=>by
  have hy:(y,NameKind.free)∈scope.names:=PySem.mem_of_lookup hl
  obtain⟨c',e'⟩:=mem_lookup (cells_acc (names:=scope.names) (n:=(s.heap.push {cls:=.type "dict",data:=.dict #[]}).objs.size) (cloFrom_has (cells:=X.env.cells) (acc:=[]) hy))
  rw [<-hcl] at e';refine⟨c',e',?_⟩
  rw [hcl] at e';rcases cells_mem (PySem.mem_of_lookup e') with hm | ⟨h1,_,_⟩
  ·exact(cm hm).1
  ·have:=ok.uniq _ h1
   rw [hl] at this;cases this
 have okB:(X.blk s H scope cenv fp).Ok:=by
  refine⟨I.ok.mod,by show cenv.scope.kind=_;rw [hsc];exact ok.kind,by show cenv.globals=_;rw [<-hcenv];exact I.ok.glob,by show cenv.builtins=_;rw [<-hcenv];exact I.ok.blt,by show s.heap.objs.size<=cenv.locals;rw [hL];exact Nat.le_refl _,
   fun y z c e1 e2=>?_,fun y hy=>?_,fun y c z e=>?_,I.ok.hd,I.ok.frames,.inl rfl,fun b hb=>⟨?_,fun y c e z=>?_⟩,I.bs,Nat.le_trans I.ok.bsz I.sz,fun b o e hb=>?_,fun b hb z=>?_,I.stack,I.stkFree⟩
  ·have e1:cenv.cells.lookup y=some c:=e1
   have e2:cenv.cells.lookup z=some c:=e2
   rw [hcl] at e1 e2;refine cells_inj (fun p hp=>?_) (fun y z c a b=>I.ok.inj y z c (cm a).1 (cm b).1) (PySem.mem_of_lookup e1) (PySem.mem_of_lookup e2)
   rw [Heap.size_push];exact Nat.lt_succ_of_lt (cm (y:=p.1) (c:=p.2) hp).2
  ·show ∃ c,cenv.cells.lookup y=some c
   have key:∀ k,cenv.kindOf y=some k->(k=.cell\/k=.free)->∃ c,cenv.cells.lookup y=some c:=fun k hk hk'=>by
    unfold Env.kindOf at hk;rw [hsc] at hk;obtain⟨k',e,r⟩:=lookup_relS hk
    have:k'=.cell\/k'=.free:=by
     rcases r with rfl | ⟨rfl,_⟩
     ·exact hk'
     ·exact .inr rfl
    rcases this with rfl | rfl
    ·obtain⟨c,hm⟩:=cells_has (n:=(s.heap.push {cls:=.type "dict",data:=.dict #[]}).objs.size) (acc:=bR X.env.cells scope.names []) (PySem.mem_of_lookup e)
     obtain⟨c',e'⟩:=mem_lookup hm;exact⟨c',by rw [hcl];exact e'⟩
    ·obtain⟨c,h1,_⟩:=look e;exact⟨c,h1⟩
   rcases hy with hy | hy
   ·exact key _ hy (.inl rfl)
   ·exact key _ hy (.inr rfl)
  ·have z:(scope.names.lookup y==some NameKind.cell)=true:=z
   have z:scope.names.lookup y=some .cell:=by simpa using z
   have e:cenv.cells.lookup y=some c:=e
   rw [hcl] at e;rcases cells_mem (PySem.mem_of_lookup e) with hm | ⟨_,h2,_⟩
   ·rcases cloFrom_mem hm with hm | ⟨h1,_⟩
    ·cases hm
    ·have q:=ok.uniq _ h1;rw [z] at q;cases q
   ·rw [Heap.size_push] at h2;exact Nat.le_of_succ_le h2
  ·show b≠cenv.locals
   rw [hL];exact Nat.ne_of_lt (hfp b hb).2
  ·have e:cenv.cells.lookup y=some c:=e
   rcases mem e with ⟨h1,_⟩ | ⟨h1,_⟩
   ·exact(hfp b hb).1.2.2.2.2.1 y c h1 z
   ·have h2:s.heap.objs.size+1<=b:=by rw [<-z];exact h1
    exact absurd (Nat.lt_of_lt_of_le (hfp b hb).2 (Nat.le_of_succ_le h2)) (Nat.lt_irrefl _)
  ·rcases (hfp b hb).1.2.2.2.1 with z | z
   ·exact I.ok.noex b o e z
   ·exact absurd (Nat.lt_of_lt_of_le (Heap.lt_size e) (Nat.le_trans I.ok.bsz z)) (Nat.lt_irrefl _)
  ·rcases List.mem_cons.mp (I.stkSub b z) with z | z
   ·exact(hfp b hb).1.2.1 z
   ·exact(hfp b hb).1.2.2.1 z
 refine⟨okB,rfl,I.bare,Un.kept kp,⟨fun _=>none,?_,fun i y av e1 e2 e3=>?_⟩,fun y c e=>?_,?_,fun y c e=>?_,fun p hp=>?_,I.hok.kept kp,by rw [wipe_length];exact I.len⟩
 ·show Heap.Ns _ cenv.locals _
  rw [hL];exact Heap.Ns.keeps (Heap.Ns.new ..) fun b o e=>pushCells_keeps _ _ _ _ e
 ·obtain⟨e2,hne⟩:=wipe_some e2
  have hfr:scope.names.lookup y=some .free/\(cenv.kindOf y=some .cell\/cenv.kindOf y=some .free):=by
   have key:∀ k,cenv.scope.names.lookup y=some k->k=.local\/k=.cell\/k=.free->scope.names.lookup y=some .free/\(cenv.kindOf y=some .cell\/cenv.kindOf y=some .free):=fun k hk hk'=>by
    have hk0:=hk;rw [hsc] at hk;obtain⟨k',e,r⟩:=lookup_relS hk
    have no:¬ (k'=.local\/k'=.cell):=fun hh=>by
     rcases ok.own _ (PySem.mem_of_lookup e) hh with e' | e'
     ·obtain⟨p,hp,hpy⟩:=List.mem_map.mp e';have e3:=ok.ix p hp;have:p.1=y:=hpy
      rw [this] at e3;exact hne (List.mem_map.mpr ⟨p,hp,nodup_ix hN e3 e1⟩)
     ·exact e' (List.mem_of_getElem? e1)
    rcases r with rfl | ⟨rfl,rfl⟩
    ·rcases hk' with rfl | rfl | rfl
     ·exact absurd (.inl rfl) no
     ·exact absurd (.inr rfl) no
     ·exact⟨e,.inr hk0⟩
    ·exact⟨e,.inl hk0⟩
   have e3:Vis cenv.scope y:=e3
   rcases e3 with e3 | e3 | e3
   ·exact key _ e3 (.inl rfl)
   ·exact key _ e3 (.inr (.inl rfl))
   ·exact key _ e3 (.inr (.inr rfl))
  obtain⟨m,hn,hl⟩:=I.loc;have hvis:Vis X.env.scope y:=(ok.free _ (PySem.mem_of_lookup hfr.1) rfl).elim (fun k=>.inr (.inl k)) (fun k=>.inr (.inr k))
  obtain⟨w,r,q⟩:=hl i y av e1 e2 hvis;refine⟨w,r,.inr ⟨hfr.2,?_⟩⟩
  obtain⟨c,h1,h2⟩:=look hfr.1;rcases q with ⟨k,_⟩ | ⟨_,c',e',z⟩
  ·have k:X.env.scope.names.lookup y=some .local:=k
   rcases ok.free _ (PySem.mem_of_lookup hfr.1) rfl with k' | k' <;> rw [show X.env.scope.names.lookup y=_ from k'] at k <;> cases k
  ·rw [h2] at e';cases e';exact⟨c,h1,z.keeps kp⟩
 ·have e:cenv.cells.lookup y=some c:=e
  rcases mem e with ⟨h1,_⟩ | ⟨_,z⟩
  ·obtain⟨w,z⟩:=I.cell y c h1;exact⟨w,z.keeps kp⟩
  ·exact⟨_,z⟩
 ·show H cenv.locals=none
  rw [hL];exact I.hok.fresh (Nat.le_refl _)
 ·have e:cenv.cells.lookup y=some c:=e
  rcases mem e with ⟨h1,_⟩ | ⟨h1,_⟩
  ·exact I.freeC y c h1
  ·exact I.hok.fresh (Nat.le_of_succ_le h1)
 ·exact absurd (show p∈([]:List (Addr×Obj))++[] from hp) (by simp)
theorem app_ok {E:Value->Shared->Prop}{D:Addr}{xs:List V}{y:V}{v:Value}{Q:Value->Shared->Prop}(I:Inv X pins σ H s)(hD:H D=some (.lst xs))(hz:xs.length < sizeLine)(r:RelV y v)
  (h:∀ s',Inv X pins σ (upd H D (.lst (xs++[y]))) s'->Q .none s'):wpAny (model X.prog X.w) X.A (call (.builtin "list.append") [.ref D,v]) Q E s:=by
 obtain⟨hz',its,n,ri,e⟩:=I.hok D _ hD;have hl:=ri.length;refine append_at (hsz:=by rw [List.size_toArray];omega) e fun h' sb ho'=>?_
 refine h {s with heap:=h'} (I.write (t':=s.toks) (by rw [hD];trivial) (.inl rfl) (fun b u hb q=>(sb.2 b hb).trans q) ⟨_,ho'⟩ ⟨by rw [List.length_append];exact hz,its++[v],n+1,ri.append (.cons r .nil),?_⟩)
 rw [ho'];simp
def PTs (X:Cx)(ifs:List Expr)(t:TT):Prop :=
 ∀ (pins:List (Addr×Obj))(s:Shared)(σ:St)(H:Hp)(Q:Bool->Hp->Prop),Inv X pins σ H s->t σ H Q ->
  wpAny (model X.prog X.w) X.A (forIn ifs true fun c r=>if r=true then do let ok <-isTrue c X.env (eval c X.env);pure (ForInStep.yield ok) else pure (ForInStep.yield r)) (TP X pins σ Q) X.xe s
def tYes:TT:=fun _ H Q=>Q true H
theorem pts_nil:PTs X [] tYes:=fun _ _ _ H _ I h=>wpAny_tests_nil ⟨H,I,h⟩
theorem pts_one {c:Expr}{t:TT}(h:PT X c t):PTs X [c] t:=fun pins s σ H Q I hw=>wpAny_tests_one (h pins s σ H Q I hw)
end
theorem thnF {α:Type}{t:Sem α}{Q Q':α->Shared->Prop}{M:Model}{A:Around}{E:Value->Shared->Prop}{s:Shared}(h:wpAny M A t Q (fun _ _=>False) s)(hQ:∀ a s,Q a s->Q' a s):wpAny M A t Q' E s:=wpAny_mono h hQ fun _ _ z=>False.elim z
theorem compLoop_any {prog:Program}{w:World}{A:Around}{R:Result->Shared->Prop}{s:Shared}{elt target iter:Expr}{ifs:List Expr}{scope:Scope}{pos:Pos}{it acc:Value}{env:Env}(I:Nat->Shared->Prop)
  (turn:∀ n s,I n s->wpAny (model prog w) A (pyNext it) (fun r s₁=>match r with
   | none=>R (.ok .next) s₁
   | some v=>wpAny (model prog w) A (letOwnedTupleGo target it v) (fun _ s₁'=>wpAny (model prog w) A (assign target env v) (fun _ s₂ =>
     wpAny (model prog w) A (forIn ifs true fun c r=>if r=true then do let ok <-isTrue c env (eval c env);pure (ForInStep.yield ok) else pure (ForInStep.yield r)) (fun ok s₃ =>
      if ok=true then wpAny (model prog w) A (eval elt env) (fun x s₄ =>
       wpAny (model prog w) A (call (.builtin "list.append") [acc,x]) (fun _ s₅=>∃ m,m < n/\I m s₅) (notedBy (model prog w) A env fun e s'=>R (.error e) s') s₄) (notedBy (model prog w) A env fun e s'=>R (.error e) s') s₃
      else ∃ m,m < n/\I m s₃) (notedBy (model prog w) A env fun e s'=>R (.error e) s') s₂) (notedBy (model prog w) A env fun e s'=>R (.error e) s') s₁') (notedBy (model prog w) A env fun e s'=>R (.error e) s') s₁) (notedBy (model prog w) A env fun e s'=>R (.error e) s') s)
  (n:Nat)(h:I n s) :
  codeAny (model prog w) A (.compLoop (.ListComp elt [⟨target,iter,ifs,0⟩] scope pos) 0 it acc env) R s:=by
 refine codeAny_loop rfl I (fun n s hI=>?_) n h
 show wpAny _ A ((compTurn (.ListComp elt [⟨target,iter,ifs,0⟩] scope pos) 0 it acc env).onRaise (fun x=>do noteFrame x env;theTreesLotGoes x)) _ _ s
 refine wpAny_noted ?_
 rw [compTurn_list];refine wpAny_bind (wpAny_standAt (wpAny_bind (wpAny_mono (turn n s hI) (fun r s₁ h₁=>?_) fun _ _ h'=>h')))
 cases r with
 | none=>exact wpAny_pure h₁
 | some v =>
  refine wpAny_bind (wpAny_mono h₁ (fun _ s₁' h₁'=>?_) fun _ _ h'=>h')
  refine wpAny_bind (wpAny_mono h₁' (fun _ s₂ h₂=>wpAny_bind (wpAny_mono h₂ (fun ok s₃ h₃=>?_) fun _ _ h'=>h')) fun _ _ h'=>h')
  cases ok with
  | false=>exact wpAny_pure ⟨rfl,h₃⟩
  | true =>
   exact wpAny_bind (wpAny_bind (wpAny_mono h₃ (fun x s₄ h₄=>wpAny_bind (wpAny_mono h₄ (fun _ s₅ h₅=>wpAny_pure (wpAny_pure ⟨rfl,h₅⟩)) fun _ _ h'=>h')) fun _ _ h'=>h'))
section
variable {X:Cx}
def tLc (wi:TI)(g:TG)(tt:TT)(te:TE)(vs:List Nat):TE:=fun σ H Q=>wi σ H fun J H1=>∀ D,H1 D=none->∃ W:Nat->Nat->Hp->Prop,(∃ m,W 0 m (upd H1 D (.lst [])))/\∀ i m H,W i m H ->
 (J.stop i H/\Q (.ref D) H)\/(J.go i H/\∃ Nx:Hp->Prop,(∀ H',Nx H'->∃ m',m' < m/\W (i+1) m' H')/\∀ x H',J.yld i H x H'->g x (bX σ vs) H' fun σ2 H2=>bX σ2 vs=bX σ vs/\tt σ2 H2 fun b H3 =>
  if b=true then te σ2 H3 fun y H4=>∃ acc,H4 D=some (.lst acc)/\acc.length < sizeLine/\Nx (upd H4 D (.lst (acc++[y]))) else Nx H3)
theorem lc_core {pins:List (Addr×Obj)}{s:Shared}{σ:St}{H:Hp}{Q:VK}{elt tg iter:Expr}{ifs:List Expr}{scope:Scope}{own:List (Str×Nat)}{pos pos':Pos}{wi:TI}{g:TG}{tt:TT}{te:TE}{use:Option (Value->Sem Unit)}{Qf:Value->Shared->Prop}
  (hc:X.calm=true)(hN:X.N.Nodup)(I:Inv X pins σ H s)(hi:PI X tg iter wi)(ok:BlkOk X.N X.env.scope scope own)
  (hg:∀ (s:Shared)(H:Hp)(C:Addr)(cl:List (Str×Addr))(fp:List Addr),PG (X.blk s H scope (compEnvC scope cl C X.env) fp) tg g)(ht:∀ (s:Shared)(H:Hp)(C:Addr)(cl:List (Str×Addr))(fp:List Addr),PTs (X.blk s H scope (compEnvC scope cl C X.env) fp) ifs tt)
  (he:∀ (s:Shared)(H:Hp)(C:Addr)(cl:List (Str×Addr))(fp:List Addr),PE (X.blk s H scope (compEnvC scope cl C X.env) fp) elt te)(hs:∀ x,foldedSetIterable iter X.env x=pure x)
  (h:tLc wi g tt te (own.map (·.2)) σ H Q)
  (hRR:∀ D C s' m H',Inv X pins σ H' s'->Q (.ref D) H'->s'.heap.Ns C m->FpOk X pins H' C->compPost (model X.prog X.w) X.A X.xe use Qf (.ref D) C (.ok .next) s') :
  wpAny (model X.prog X.w) X.A (comprehension (.ListComp elt [⟨tg,iter,ifs,0⟩] scope pos) scope X.env pos' (newList []) false (eval iter X.env) use) Qf X.xe s:=by
 have hfree:∀ y∈scope.names,y.2=.free->∃ c,X.env.cells.lookup y.1=some c:=fun y hy e=>by
  rcases ok.free y hy e with k | k
  ·exact I.ok.has _ (.inl k)
  ·exact I.ok.has _ (.inr k)
 refine wpAny_comprehension_free (use:=use) rfl hs (closure_ok hfree) ok.kind (fun y hy e=>by rw [ok.uniq y hy,e])
  (thn (hi pins s σ H _ I h) fun xv s1 hx=>thn hx fun itv s2 h2=>?_)
 obtain⟨it,fp,tn,J,H2,e,I2,T,st2,f2,q⟩:=h2;subst e;refine wpAny_newObj_type (newEnv_comp ?_) (by show 0<=sizeLine;decide)
 generalize hD:s2.heap.objs.size=D;have hDn:H2 D=none:=I2.hok.fresh (Nat.le_of_eq hD)
 obtain⟨W,⟨m0,w0⟩,turn⟩:=q D hDn;generalize hs3:({s2 with heap:=s2.heap.push {cls:=.type "list",data:=.seq ([]:List Value).toArray}}:Shared)=s3
 have I3:Inv X pins σ (upd H2 D (.lst [])) s3:=by
  rw [<-hs3];refine I2.laid (t':=s2.toks) (fun b o e=>Heap.get?_push_of_some _ e) (Nat.le_of_eq hD) ⟨Nat.zero_le _,[],0,.nil,?_⟩
  rw [<-hD];exact Heap.get?_push_size _ rfl
 have h3:s3.heap=s2.heap.push {cls:=.type "list",data:=.seq ([]:List Value).toArray}:=by rw [<-hs3]
 have sz:∀ b∈fp,b < s2.heap.objs.size:=fun b hb=>by
  obtain⟨o,e,_⟩:=T.obj _ _ st2 b hb;exact Heap.lt_size e
 have f3:∀ b∈fp,FpOk X pins (upd H2 D (.lst [])) b/\b < s3.heap.objs.size:=fun b hb=>by
  have hlt:=sz b hb;refine⟨⟨?_,(f2 b hb).2⟩,by rw [h3,Heap.size_push];exact Nat.lt_succ_of_lt hlt⟩
  rw [uN (by rw [<-hD];exact Nat.ne_of_lt hlt)]
  exact(f2 b hb).1
 have st3:tn 0 s3.heap:=T.keep _ _ _ st2 fun b _ o e=>by rw [h3];exact Heap.get?_push_of_some _ e
 have I4:=block_start I3 ok hN f3;have pg:=hg s3 (upd H2 D (.lst [])) s3.heap.objs.size (cellsFrom (s3.heap.objs.size+1) scope.names (bR X.env.cells scope.names [])) fp;have pt:=ht s3 (upd H2 D (.lst [])) s3.heap.objs.size (cellsFrom (s3.heap.objs.size+1) scope.names (bR X.env.cells scope.names [])) fp;have pe:=he s3 (upd H2 D (.lst [])) s3.heap.objs.size (cellsFrom (s3.heap.objs.size+1) scope.names (bR X.env.cells scope.names [])) fp
 show codeAny _ _ (.compStart (.ListComp elt [⟨tg,iter,ifs,0⟩] scope pos) 0 (.ref it) (.ref D) (compEnvC scope (cellsFrom (s3.heap.objs.size+1) scope.names (bR X.env.cells scope.names [])) s3.heap.objs.size X.env)) (compPost (model X.prog X.w) X.A X.xe use Qf (.ref D) s3.heap.objs.size) {s3 with heap:=pushCells (s3.heap.push {cls:=.type "dict",data:=.dict #[]}) scope.names}
 have nfp:∀ b∈fp,(upd H2 D (.lst [])) b=none:=fun b hb=>(f3 b hb).1.1
 generalize hce:compEnvC scope (cellsFrom (s3.heap.objs.size+1) scope.names (bR X.env.cells scope.names [])) s3.heap.objs.size X.env=ce at I4 pg pt pe ⊢;have cL:ce.locals=s3.heap.objs.size:=by subst hce;rfl
 generalize hH3:upd H2 D (.lst [])=H3 at I3 I4 pg pt pe w0 nfp f3;generalize hs4:({s3 with heap:=pushCells (s3.heap.push {cls:=.type "dict",data:=.dict #[]}) scope.names}:Shared)=s4 at I4 ⊢
 have st4:tn 0 s4.heap:=T.keep _ _ _ st3 fun b _ o e=>by rw [<-hs4];exact pushCells_keeps _ _ _ _ (Heap.get?_push_of_some _ e)
 have stat:∀ {σ':St}{H':Hp}{s':Shared},Inv (X.blk s3 H3 scope ce fp) [] σ' H' s'->(∀ b∈fp,H' b=none)->∀ b∈fp,FpOk (X.blk s3 H3 scope ce fp) [] H' b:=fun {σ' H' s'} I' hn b hb =>
  ⟨hn b hb,(I'.ok.exf b hb).1,I'.ok.exfs b hb,.inl hb,fun x c e=>(I'.ok.exf b hb).2 x c e,fun p hp=>absurd (show p∈([]:List (Addr×Obj))++[] from hp) (by simp)⟩
 have loop:codeAny (model X.prog X.w) X.A (.compLoop (.ListComp elt [⟨tg,iter,ifs,0⟩] scope pos) 0 (.ref it) (.ref D) ce) (compPost (model X.prog X.w) X.A X.xe use Qf (.ref D) s3.heap.objs.size) s4:=by
  refine compLoop_any (fun n s'=>∃ i H',Inv (X.blk s3 H3 scope ce fp) [] (bX σ (own.map (·.2))) H' s'/\tn i s'.heap/\(∀ b∈fp,H' b=none)/\W i n H') ?_ m0 ⟨0,H3,I4,st4,nfp,w0⟩
  rintro n s5 ⟨i,H5,I5,st5,n5,w5⟩
  rcases turn i n H5 w5 with ⟨stop,qq⟩ | ⟨go,Nx,hNx,step⟩
  ·have td:=T.done (X.blk s3 H3 scope ce fp) rfl rfl rfl hc i [] s5 _ H5 (fun _ _=>False) I5 (stat I5 n5) st5 stop
   refine thnF td fun r s6 ⟨hr,I6⟩=>?_
   subst hr;have I7:Inv X pins σ H5 s6:=I3.call' (ch:=fp) I6.os I6.base I6.hok I6.bare fun b hb=>⟨(f3 b hb).1.2.2.2.1,(f3 b hb).1.2.1,(f3 b hb).1.2.2.2.2.1,(f3 b hb).1.2.2.2.2.2⟩
   have nC:H5 s3.heap.objs.size=none:=by
    have z:H5 ce.locals=none:=I6.free
    rw [cL] at z;exact z
   obtain⟨m,hn,_⟩:=I6.loc;have hn:s6.heap.Ns ce.locals m:=hn
   rw [cL] at hn;exact hRR D s3.heap.objs.size s6 m H5 I7 qq hn (I3.fpOk (Nat.le_refl _) nC)
  ·have ti:=T.item (X.blk s3 H3 scope ce fp) rfl rfl rfl hc i [] s5 _ H5 (fun _ _=>False) I5 (stat I5 n5) st5 go
   refine thnF ti fun r s6 ⟨u,hr,h6⟩=>?_
   subst hr;refine thnF h6 fun _ s7 ⟨x,H7,I7,r7,y7,st7,n7⟩=>?_
   have I7':=I7.pinned (stat I7 n7) (T.obj _ _ st7);refine thnF (pg _ s7 _ H7 x u _ I7' r7 (step x H7 y7)) fun _ s8 ⟨σ8,H8,I8,hw8,q8⟩=>?_
   refine thnF (pt _ s8 σ8 H8 _ I8 q8) fun b s9 ⟨H9,I9,q9⟩=>?_
   have fin:∀ {s':Shared}{H':Hp},Inv (X.blk s3 H3 scope ce fp) ([]++pinsAt fp s7.heap) σ8 H' s'->Nx H'->∃ m,m < n/\∃ i H',Inv (X.blk s3 H3 scope ce fp) [] (bX σ (own.map (·.2))) H' s'/\tn i s'.heap/\(∀ b∈fp,H' b=none)/\W i m H':=fun {s' H'} I' nx=>by
    obtain⟨m',hm,w'⟩:=hNx H' nx
    have pin':∀ b∈fp,∀ o,s7.heap.get? b=some o->s'.heap.get? b=some o/\H' b=none:=fun b hb o e =>
     let z:=I'.pin (b,o) (List.mem_append_right _ (List.mem_append_right _ (mem_pinsAt hb e)))
     ⟨z.1,z.2.1⟩
    have hl:(bX σ (own.map (·.2))).length=σ8.length:=by rw [<-hw8,wipe_length]
    refine⟨m',hm,i+1,H',(I'.unpinned (pins:=[])).weak hl (fun j v e=>?_),T.keep _ _ _ st7 fun b hb o e=>(pin' b hb o e).1,fun b hb=>?_,w'⟩
    ·rw [<-hw8] at e;exact(wipe_some e).1
    ·obtain⟨o,e,_⟩:=T.obj _ _ st7 b hb;exact(pin' b hb o e).2
   cases b with
   | false =>
    simp only [Bool.false_eq_true,if_false] at q9 ⊢;exact fin I9 q9
   | true =>
    simp only [if_true] at q9 ⊢;refine thnF (pe _ s9 σ8 H9 _ I9 q9) fun z s10 ⟨yv,H10,I10,r10,acc,hD10,hz10,nx⟩=>?_
    exact app_ok (X:=X.blk s3 H3 scope ce fp) I10 hD10 hz10 r10 fun s11 I11=>fin I11 nx
 exact codeAny_compStart_list loop (T.self X.A 0 _ _ _ st4 loop)
theorem pe_lc {elt tg iter:Expr}{ifs:List Expr}{scope:Scope}{own:List (Str×Nat)}{pos:Pos}{wi:TI}{g:TG}{tt:TT}{te:TE}(hc:X.calm=true)(hN:X.N.Nodup)(hi:PI X tg iter wi)(ok:BlkOk X.N X.env.scope scope own)
  (hg:∀ (s:Shared)(H:Hp)(C:Addr)(cl:List (Str×Addr))(fp:List Addr),PG (X.blk s H scope (compEnvC scope cl C X.env) fp) tg g)(ht:∀ (s:Shared)(H:Hp)(C:Addr)(cl:List (Str×Addr))(fp:List Addr),PTs (X.blk s H scope (compEnvC scope cl C X.env) fp) ifs tt)
  (he:∀ (s:Shared)(H:Hp)(C:Addr)(cl:List (Str×Addr))(fp:List Addr),PE (X.blk s H scope (compEnvC scope cl C X.env) fp) elt te)(hs:∀ x,foldedSetIterable iter X.env x=pure x:=by intro _;rfl) :
  PE X (.ListComp elt [⟨tg,iter,ifs,0⟩] scope pos) (tLc wi g tt te (own.map (·.2))):=by
 intro pins s σ H Q I h;rw [eval_ListComp];refine lc_core hc hN I hi ok hg ht he hs h fun D C s' m H' I' q hn f=>⟨m,hn,fun h'' sb=>?_⟩
 obtain⟨f0,f1,f2,f3,f4,f5⟩:=f;exact⟨.ref D,H',I'.turned (t':=s'.toks) (fun b o hb e=>(sb.2 b hb).trans e) f0 f1 f3 f4 f5,rfl,q⟩
theorem ps_setLc {i:Nat}{y:Str}{py:Pos}{elt tg iter:Expr}{ifs:List Expr}{scope:Scope}{own:List (Str×Nat)}{pos spos:Pos}{wi:TI}{g:TG}{tt:TT}{te:TE}(hc:X.calm=true)(hN:X.N.Nodup)(hy:X.N[i]?=some y)(hyl:X.env.scope.names.lookup y=some .local)
  (hsw:swapsWith (.ListComp elt [⟨tg,iter,ifs,0⟩] scope pos) (some (.Name y py)) spos.line X.env=pure true)(hi:PI X tg iter wi)(ok:BlkOk X.N X.env.scope scope own)
  (hg:∀ (s:Shared)(H:Hp)(C:Addr)(cl:List (Str×Addr))(fp:List Addr),PG (X.blk s H scope (compEnvC scope cl C X.env) fp) tg g)(ht:∀ (s:Shared)(H:Hp)(C:Addr)(cl:List (Str×Addr))(fp:List Addr),PTs (X.blk s H scope (compEnvC scope cl C X.env) fp) ifs tt)
  (he:∀ (s:Shared)(H:Hp)(C:Addr)(cl:List (Str×Addr))(fp:List Addr),PE (X.blk s H scope (compEnvC scope cl C X.env) fp) elt te)(hs:∀ x,foldedSetIterable iter X.env x=pure x:=by intro _;rfl) :
  PS X (.Assign [.Name y py] (.ListComp elt [⟨tg,iter,ifs,0⟩] scope pos) spos) (tAsg (tLc wi g tt te (own.map (·.2))) (gJ i)):=by
 intro pins s σ H D I h;rw [exec_Assign_Name_used _ _ _ _ hsw];refine wpAny_bind (wpAny_standAt (wpAny_bind ?_))
 show wpAny _ X.A (do let _ <-comprehension (.ListComp elt [⟨tg,iter,ifs,0⟩] scope pos) scope X.env (firstIterPos [⟨tg,iter,ifs,0⟩] pos) (newList []) false (eval iter X.env) (some (assign (.Name y py) X.env))) _ _ s
 have h:tLc wi g tt te (own.map (·.2)) σ H (fun x H1=>gJ i x σ H1 D.nx):=h
 refine wpAny_bind (thn (lc_core (Qf:=fun _ s'=>SP X pins D .next s') hc hN I hi ok hg ht he hs h fun L C s' m H' I' q hn f=>?_) fun _ s' hq=>wpAny_pure (wpAny_pure hq))
 show wpAny _ _ (assign (.Name y py) X.env (.ref L)) _ _ _
 refine wpAny_assign_Name (store_ok2 (v:=V.ref L) I' hN hy (.inl hyl) rfl (fun s2 I2 ⟨a,sb,ha⟩=>?_) (.inr hyl))
 obtain⟨f0,f1,f2,f3,f4,f5⟩:=f
 have haC:C≠a:=by
  rcases ha with z | z
  ·rw [z];exact f1
  ·exact fun e=>f4 y a z e.symm
 refine⟨m,hn.sameBut sb haC,fun h3 sb3=>?_⟩
 exact⟨_,H',I2.turned (t':=s2.toks) (fun b o hb e=>(sb3.2 b hb).trans e) f0 f1 f3 f4 f5,q⟩
theorem sw_true {elt:Expr}{gs:List Comprehension}{scope:Scope}{pos py:Pos}{y:Str}{l:Nat}{env:Env}(hk:env.scope.kind=.function)(hy:env.scope.names.lookup y=some .local)(hl:(py.line==pos.line)=true)
  (ha:(scope.names.any fun(n,k)=>n==y&&(k==.local||k==.cell))=false):swapsWith (.ListComp elt gs scope pos) (some (.Name y py)) l env=pure true:=by
 have ky:env.kindOf y=some .local:=hy
 have hb:env.blockKind=.function:=by unfold Env.blockKind;rw [hk];rfl
 unfold swapsWith;simp only [hb,ky,ha,Expr.pos,hl];rfl
end
theorem lc_list {K:W.Frag}{a:Addr}{xs:List V}{g:TG}{tt:TT}{te:TE}{vs:List Nat}{σ:St}{H1:Hp}{D:Addr}{Qd:Hp->Prop}(Pv:Nat->Hp->Prop)(h0:Pv 0 (upd H1 D (.lst [])))(hl:∀ i H,i<=xs.length->Pv i H->SqL K H a xs)
  (hs:∀ i x H,xs[i]?=some x->Pv i H->g x (bX σ vs) H fun σ2 H2=>bX σ2 vs=bX σ vs/\tt σ2 H2 fun b H3 =>
   if b=true then te σ2 H3 fun y H4=>∃ acc,H4 D=some (.lst acc)/\acc.length < sizeLine/\Pv (i+1) (upd H4 D (.lst (acc++[y]))) else Pv (i+1) H3)(hd:∀ H,Pv xs.length H->Qd H) :
  ∃ W:Nat->Nat->Hp->Prop,(∃ m,W 0 m (upd H1 D (.lst [])))/\∀ i m H,W i m H ->
   ((Itl K a).stop i H/\Qd H)\/((Itl K a).go i H/\∃ Nx:Hp->Prop,(∀ H',Nx H'->∃ m',m' < m/\W (i+1) m' H')/\∀ x H',(Itl K a).yld i H x H'->g x (bX σ vs) H' fun σ2 H2=>bX σ2 vs=bX σ vs/\tt σ2 H2 fun b H3 =>
    if b=true then te σ2 H3 fun y H4=>∃ acc,H4 D=some (.lst acc)/\acc.length < sizeLine/\Nx (upd H4 D (.lst (acc++[y]))) else Nx H3):=by
 refine⟨fun i m H=>m=xs.length - i/\i<=xs.length/\Pv i H,⟨xs.length,by simp,Nat.zero_le _,h0⟩,?_⟩
 rintro i m H ⟨rfl,hi,p⟩
 have q:=hl i H hi p;by_cases hlt:i < xs.length
 ·refine .inr ⟨⟨xs,xs[i],q,by simp [hlt]⟩,Pv (i+1),fun H' p'=>⟨xs.length - (i+1),by omega,rfl,hlt,p'⟩,fun x H' y=>?_⟩
  obtain⟨e,y⟩:=y;subst e;exact hs i x _ (y xs q) p
 ·have e:i=xs.length:=by omega
  subst e;exact .inl ⟨⟨xs,q,Nat.le_refl _⟩,hd H p⟩
theorem lc_tup {K:W.Frag}{a:Addr}{xs:List V}{g:TG}{tt:TT}{te:TE}{vs:List Nat}{σ:St}{H1:Hp}{D:Addr}{Qd:Hp->Prop}(Pv:Nat->Hp->Prop)(h0:Pv 0 (upd H1 D (.lst [])))(hl:∀ i H,i<=xs.length->Pv i H->SqT K H a xs)
  (hs:∀ i x H,xs[i]?=some x->Pv i H->g x (bX σ vs) H fun σ2 H2=>bX σ2 vs=bX σ vs/\tt σ2 H2 fun b H3 =>
   if b=true then te σ2 H3 fun y H4=>∃ acc,H4 D=some (.lst acc)/\acc.length < sizeLine/\Pv (i+1) (upd H4 D (.lst (acc++[y]))) else Pv (i+1) H3)(hd:∀ H,Pv xs.length H->Qd H) :
  ∃ W:Nat->Nat->Hp->Prop,(∃ m,W 0 m (upd H1 D (.lst [])))/\∀ i m H,W i m H ->
   ((Itt K a).stop i H/\Qd H)\/((Itt K a).go i H/\∃ Nx:Hp->Prop,(∀ H',Nx H'->∃ m',m' < m/\W (i+1) m' H')/\∀ x H',(Itt K a).yld i H x H'->g x (bX σ vs) H' fun σ2 H2=>bX σ2 vs=bX σ vs/\tt σ2 H2 fun b H3 =>
    if b=true then te σ2 H3 fun y H4=>∃ acc,H4 D=some (.lst acc)/\acc.length < sizeLine/\Nx (upd H4 D (.lst (acc++[y]))) else Nx H3):=by
 refine⟨fun i m H=>m=xs.length - i/\i<=xs.length/\Pv i H,⟨xs.length,by simp,Nat.zero_le _,h0⟩,?_⟩
 rintro i m H ⟨rfl,hi,p⟩
 have q:=hl i H hi p;by_cases hlt:i < xs.length
 ·refine .inr ⟨⟨xs,xs[i],q,by simp [hlt]⟩,Pv (i+1),fun H' p'=>⟨xs.length - (i+1),by omega,rfl,hlt,p'⟩,fun x H' y=>?_⟩
  obtain⟨e,y⟩:=y;subst e;exact hs i x _ (y xs q) p
 ·have e:i=xs.length:=by omega
  subst e;exact .inl ⟨⟨xs,q,Nat.le_refl _⟩,hd H p⟩
def blkC (N:List Str)(sc scope:Scope)(own:List (Str×Nat)):Bool :=
 (match scope.kind with | .function=>true | _=>false)&&(scope.names.all fun y=>decide (scope.names.lookup y.1=some y.2))&&(own.all fun p=>decide (N[p.2]?=some p.1)) &&
  (scope.names.all fun y=>match y.2 with
   | .free=>(match sc.names.lookup y.1 with | some .cell=>true | some .free=>true | _=>false)
   | .local=>decide (y.1∈own.map (·.1))||decide (y.1 ∉ N)
   | .cell=>decide (y.1∈own.map (·.1))||decide (y.1 ∉ N)
   | _=>true)
theorem eT {N:List Str}{sc scope:Scope}{own:List (Str×Nat)}(h:blkC N sc scope own=true):BlkOk N sc scope own:=by
 unfold blkC at h;simp only [Bool.and_eq_true,List.all_eq_true,decide_eq_true_eq] at h;obtain⟨⟨⟨h1,h2⟩,h3⟩,h4⟩:=h;refine⟨?_,h2,h3,fun y hy e=>?_,fun y hy e=>?_⟩
 ·split at h1
  ·assumption
  ·cases h1
 ·have q:=h4 y hy;simp only [e] at q;split at q <;> first | exact .inl (by assumption) | exact .inr (by assumption) | cases q
 ·have q:=h4 y hy;rcases e with e | e <;> (simp only [e,Bool.or_eq_true,decide_eq_true_eq] at q;exact q)
end L2
namespace L2
open PySem PySem.Spec PyProof.Rows
section
variable {κ:Type} [DecidableEq κ]
def cF (kvs:List (κ×V))(k:κ):Option V:=(kvs.find? fun kv=>decide (kv.1=k)).map (·.2)
def putK (kvs:List (κ×V))(k:κ)(v:V):List (κ×V) :=
 if (kvs.any fun kv=>decide (kv.1=k))=true then kvs.map (fun kv=>if kv.1=k then(kv.1,v) else kv) else kvs++[(k,v)]
def dropK (kvs:List (κ×V))(k:κ):List (κ×V):=kvs.filter fun kv=>decide (kv.1≠k)
theorem iW {p:κ×V}{r:List (κ×V)}{k:κ}(e:p.1=k):cF (p::r) k=some p.2:=by simp [cF,List.find?_cons,e]
theorem gN {p:κ×V}{r:List (κ×V)}{k:κ}(e:¬ p.1=k):cF (p::r) k=cF r k:=by simp [cF,List.find?_cons,e]
theorem valV_any (k:κ):∀ kvs:List (κ×V),(kvs.any fun kv=>decide (kv.1=k))=(cF kvs k).isSome
 | []=>rfl
 | p::r=>by
  rw [List.any_cons];by_cases e:p.1=k
  ·simp only [iW e,decide_eq_true e,Bool.true_or,Option.isSome_some]
  ·rw [gN e,decide_eq_false e,Bool.false_or];exact valV_any k r
theorem length_putK (kvs:List (κ×V))(k:κ)(v:V):(putK kvs k v).length<=kvs.length+1:=by
 unfold putK;split
 ·rw [List.length_map];omega
 ·rw [List.length_append,List.length_cons,List.length_nil];omega
theorem putK_new {kvs:List (κ×V)}{k:κ}(v:V)(h:cF kvs k=none):putK kvs k v=kvs++[(k,v)]:=by
 unfold putK;rw [valV_any,h];exact if_neg (by decide)
theorem RelO.isSome_eq {o:Option V}{u:Option Value}(r:RelO o u):o.isSome=u.isSome:=by
 cases o with
 | none=>cases u with
  | none=>rfl
  | some _=>exact(show False from r).elim
 | some _=>cases u with
  | none=>exact(show False from r).elim
  | some _=>rfl
theorem RelO.getD {o:Option V}{u:Option Value}{d:V}{d':Value}(r:RelO o u)(rd:RelV d d'):RelV (o.getD d) (u.getD d'):=by
 cases o with
 | none=>cases u with
  | none=>exact rd
  | some _=>exact(show False from r).elim
 | some _=>cases u with
  | none=>exact(show False from r).elim
  | some _=>exact r
theorem KV.val {kvs:List (κ×V)}{vs:List (κ×Value)}(r:KV kvs vs)(k:κ):RelO (cF kvs k) (valueAt vs k):=by
 unfold KV at r;induction r with
 | nil=>exact True.intro
 | @cons p q ps qs h t ih =>
  obtain⟨h1,h2⟩:=h;by_cases e:p.1=k
  ·have e':q.1=k:=h1.symm.trans e
   have b:valueAt (q::qs) k=some q.2:=by simp [valueAt,List.find?_cons,e']
   rw [iW e,b];exact h2
  ·have e':¬ q.1=k:=fun z=>e (h1.trans z)
   have b:valueAt (q::qs) k=valueAt qs k:=by simp [valueAt,List.find?_cons,e']
   rw [gN e,b];exact ih
theorem KV.any {kvs:List (κ×V)}{vs:List (κ×Value)}(r:KV kvs vs)(k:κ):(kvs.any fun kv=>decide (kv.1=k))=vs.any fun kv=>decide (kv.1=k):=by
 unfold KV at r;induction r with
 | nil=>rfl
 | cons h t ih=>rw [List.any_cons,List.any_cons,ih,h.1]
theorem KV.repl {kvs:List (κ×V)}{vs:List (κ×Value)}(r:KV kvs vs)(k:κ){y:V}{u:Value}(ry:RelV y u) :
  KV (kvs.map fun kv=>if kv.1=k then(kv.1,y) else kv) (vs.map fun kv=>if kv.1=k then(kv.1,u) else kv):=by
 unfold KV at r ⊢;induction r with
 | nil=>exact .nil
 | @cons p q ps qs h t ih =>
  rw [List.map_cons,List.map_cons];refine .cons ?_ ih
  obtain⟨h1,h2⟩:=h;by_cases e:p.1=k
  ·rw [if_pos e,if_pos (h1.symm.trans e)];exact⟨h1,ry⟩
  ·rw [if_neg e,if_neg (fun z=>e (h1.trans z))];exact⟨h1,h2⟩
theorem KV.put {kvs:List (κ×V)}{vs:List (κ×Value)}(r:KV kvs vs)(k:κ){y:V}{u:Value}(ry:RelV y u):KV (putK kvs k y) (stored vs k u):=by
 unfold putK stored;rw [r.any k];by_cases e:(vs.any fun kv=>decide (kv.1=k))=true
 ·rw [if_pos e,if_pos e];exact r.repl k ry
 ·rw [if_neg e,if_neg e];exact Paired.snoc r ⟨rfl,ry⟩
theorem KV.drop {kvs:List (κ×V)}{vs:List (κ×Value)}(r:KV kvs vs)(k:κ):KV (dropK kvs k) (without vs k):=by
 unfold KV at r ⊢;unfold dropK without;induction r with
 | nil=>exact .nil
 | @cons p q ps qs h t ih =>
  obtain⟨h1,h2⟩:=h;rw [List.filter_cons,List.filter_cons];by_cases e:p.1=k
  ·have a:¬ decide (p.1≠k)=true:=by simp [e]
   have b:¬ decide (q.1≠k)=true:=by simp [h1.symm.trans e]
   rw [if_neg a,if_neg b];exact ih
  ·have e':¬ q.1=k:=fun z=>e (h1.trans z)
   have a:decide (p.1≠k)=true:=by simp [e]
   have b:decide (q.1≠k)=true:=by simp [e']
   rw [if_pos a,if_pos b];exact .cons ⟨h1,h2⟩ ih
theorem KV.length {kvs:List (κ×V)}{vs:List (κ×Value)}(r:KV kvs vs):kvs.length=vs.length:=Paired.length r
theorem dropK_le (kvs:List (κ×V))(k:κ):(dropK kvs k).length<=kvs.length:=List.length_filter_le _ _
end
theorem kV_is {P:Program}{w:World}{k:Key}{u:Value}(r:RelV (kV k) u):(aS P w).is k u=true:=by
 cases k with
 | inl i=>obtain⟨t,e⟩:=(show ∃ t,u=Value.int i t from r);subst e;exact mixKind_int P w i t
 | inr x=>obtain⟨t,e⟩:=(show ∃ t,u=Value.str x t from r);subst e;exact mixKind_str P w x t
theorem items_are {P:Program}{w:World}:∀ {ks:List Key}{us:List Value},Vals (ks.map kV) us->ItemsAre (aS P w) ks us
 | [],_,r=>by rw [List.map_nil] at r;cases r;exact .nil
 | k::ks,_,r=>by
  rw [List.map_cons] at r;cases r with
  | cons h t=>exact .cons (kV_is h) (items_are t)
abbrev KT (H:Hp):List (List Key×V)->List (List Key×Addr×Value)->Prop:=Paired fun p q=>p.1=q.1/\H q.2.1=some (.tup (p.1.map kV))/\RelV p.2 q.2.2
theorem KT.val {H:Hp}{kvs:List (List Key×V)}{xs:List (List Key×Addr×Value)}(r:KT H kvs xs)(k:List Key):RelO (cF kvs k) ((atKey xs k).map (·.2)):=by
 induction r with
 | nil=>exact True.intro
 | @cons p q ps qs h t ih =>
  obtain⟨h1,_,h2⟩:=h;by_cases e:p.1=k
  ·have e':q.1=k:=h1.symm.trans e
   have b:atKey (q::qs) k=some q.2:=by simp [atKey,List.find?_cons,e']
   rw [iW e,b];exact h2
  ·have e':¬ q.1=k:=fun z=>e (h1.trans z)
   have b:atKey (q::qs) k=atKey qs k:=by simp [atKey,List.find?_cons,e']
   rw [gN e,b];exact ih
theorem KT.repl {H:Hp}{kvs:List (List Key×V)}{xs:List (List Key×Addr×Value)}(r:KT H kvs xs)(k:List Key){y:V}{u:Value}(ry:RelV y u) :
  KT H (kvs.map fun kv=>if kv.1=k then(kv.1,y) else kv) (xs.map (putAt k u)):=by
 induction r with
 | nil=>exact .nil
 | @cons p q ps qs h t ih =>
  rw [List.map_cons,List.map_cons];refine .cons ?_ ih
  obtain⟨h1,h2,h3⟩:=h;unfold putAt;by_cases e:p.1=k
  ·rw [if_pos e,if_pos (h1.symm.trans e)];exact⟨h1,h2,ry⟩
  ·rw [if_neg e,if_neg (fun z=>e (h1.trans z))];exact⟨h1,h2,h3⟩
theorem KT.put {H:Hp}{kvs:List (List Key×V)}{xs:List (List Key×Addr×Value)}(r:KT H kvs xs)(k:List Key){b:Addr}{y:V}{u:Value}(hb:H b=some (.tup (k.map kV)))(ry:RelV y u) :
  KT H (putK kvs k y) (storedH xs k b u):=by
 have e:(kvs.any fun kv=>decide (kv.1=k))=(atKey xs k).isSome:=by
  rw [valV_any,(r.val k).isSome_eq,Option.isSome_map]
 unfold putK storedH;rw [e];by_cases q:(atKey xs k).isSome=true
 ·rw [if_pos q,if_pos q];exact r.repl k ry
 ·rw [if_neg q,if_neg q];exact Paired.snoc r ⟨rfl,hb,ry⟩
theorem KT.keeps {H H':Hp}{kvs:List (List Key×V)}{xs:List (List Key×Addr×Value)}(r:KT H kvs xs)(ht:∀ b ys,H b=some (.tup ys)->H' b=some (.tup ys)):KT H' kvs xs :=
 Paired.mapP r fun _ _ z=>⟨z.1,ht _ _ z.2.1,z.2.2⟩
section
variable {P:Program}{w:World}{H:Hp}{h:Heap}{a:Addr}
theorem rd_of {u:HO}(ok:HOk P w H h)(e:Rd H a u):ObjOk P w H h a u:=e.ok ok
theorem dk_rd {kvs:List (Key×V)}(ok:HOk P w H h)(e:Rd H a (.dK kvs)):kvs.length<=sizeLine/\(a==sysModules)=false/\∃ vs,KV kvs vs/\h.DictOf (aS P w) a vs :=
 show ObjOk P w H h a (.dK kvs) from rd_of ok e
theorem dk_of {kvs:List (Key×V)}(ok:HOk P w H h)(e:H a=some (.dK kvs)):kvs.length<=sizeLine/\(a==sysModules)=false/\∃ vs,KV kvs vs/\h.DictOf (aS P w) a vs:=dk_rd ok (.inl e)
theorem key_of {ks:List Key}(ok:HOk P w H h)(e:H a=some (.tup (ks.map kV))):(tupleKind (aS P w)).is h ks a:=by
 obtain⟨_,its,r,o,h1,h2,⟨n,h3⟩,_⟩:=(show ObjOk P w H h a (.tup (ks.map kV)) from ok a _ e)
 exact⟨o,its.toArray,n,h1,h2,h3,by simpa using items_are r⟩
theorem dt_rd {kvs:List (List Key×V)}(ok:HOk P w H h)(e:Rd H a (.dT kvs)):kvs.length<=sizeLine/\(a==sysModules)=false /\
  ∃ xs,KT H kvs xs/\h.DictOfH (tupleKind (aS P w)) a xs:=by
 obtain⟨z,y,xs,r,o,es,ep,h1,h2,h3,h4,h5⟩:=(show ObjOk P w H h a (.dT kvs) from rd_of ok e)
 refine⟨z,y,xs,r,o,es,ep,h1,h2,h3,h4,fun x hx=>?_,h5⟩
 have all:∀ {l:List (List Key×V)}{m:List (List Key×Addr×Value)},KT H l m->∀ x∈m,(tupleKind (aS P w)).is h x.1 x.2.1:=by
  intro l m q;induction q with
  | nil=>intro x hx;exact nomatch hx
  | @cons p q ps qs hq t ih =>
   intro x hx;rcases List.mem_cons.mp hx with e | hx
   ·subst e;exact key_of ok (by rw [<-hq.1];exact hq.2.1)
   ·exact ih x hx
 exact all r x hx
theorem dt_of {kvs:List (List Key×V)}(ok:HOk P w H h)(e:H a=some (.dT kvs)):kvs.length<=sizeLine/\(a==sysModules)=false /\
  ∃ xs,KT H kvs xs/\h.DictOfH (tupleKind (aS P w)) a xs:=dt_rd ok (.inl e)
end
def DGet (H:Hp)(a:Addr)(y:V)(r:Option V):Prop :=
 (∃ kvs k,Rd H a (.dK kvs)/\y=kV k/\r=cF kvs k)\/∃ kvs k b,Rd H a (.dT kvs)/\y=.ref b/\H b=some (.tup (k.map kV))/\r=cF kvs k
def DPut (H:Hp)(a:Addr)(y v:V)(H':Hp):Prop :=
 (∃ kvs k,H a=some (.dK kvs)/\y=kV k/\kvs.length < sizeLine/\H'=upd H a (.dK (putK kvs k v))) \/
 ∃ kvs k b,H a=some (.dT kvs)/\y=.ref b/\H b=some (.tup (k.map kV))/\kvs.length < sizeLine/\H'=upd H a (.dT (putK kvs k v))
theorem DGet.k {H:Hp}{a:Addr}{kvs:List (Key×V)}{k:Key}(e:H a=some (.dK kvs)):DGet H a (kV k) (cF kvs k):=.inl ⟨kvs,k,.inl e,rfl,rfl⟩
theorem DGet.t {H:Hp}{a b:Addr}{kvs:List (List Key×V)}{k:List Key}(e:H a=some (.dT kvs))(eb:H b=some (.tup (k.map kV))):DGet H a (.ref b) (cF kvs k):=.inr ⟨kvs,k,b,.inl e,rfl,eb,rfl⟩
theorem DPut.k {H:Hp}{a:Addr}{kvs:List (Key×V)}{k:Key}{v:V}(e:H a=some (.dK kvs))(hl:kvs.length < sizeLine):DPut H a (kV k) v (upd H a (.dK (putK kvs k v))):=.inl ⟨kvs,k,e,rfl,hl,rfl⟩
theorem DPut.t {H:Hp}{a b:Addr}{kvs:List (List Key×V)}{k:List Key}{v:V}(e:H a=some (.dT kvs))(eb:H b=some (.tup (k.map kV)))(hl:kvs.length < sizeLine) :
  DPut H a (.ref b) v (upd H a (.dT (putK kvs k v))):=.inr ⟨kvs,k,b,e,rfl,eb,hl,rfl⟩
section
variable {X:Cx}{pins:List (Addr×Obj)}{σ:St}{H:Hp}{s:Shared}{a:Addr}{y v:V}{u r:Value}{o:Option V}{A:Around}{E:Value->Shared->Prop}
theorem Inv.big (I:Inv X pins σ H s):sysModules < s.heap.objs.size:=by
 have h:mainGlobals < s.heap.objs.size:=(I.mod.glob.keeps I.bk).lt
 exact Nat.lt_trans (by decide) h
theorem d_getItem {Q:Value->Shared->Prop}(hu:A.units+1 < cLine)(I:Inv X pins σ H s)(g:DGet H a y (some v))(ry:RelV y u)(h:∀ w' s',Inv X pins σ H s'->RelV v w'->Q w' s') :
  wpAny (model X.prog X.w) A (getItem (.ref a) u) Q E s:=by
 rcases g with ⟨kvs,k,e,ey,l⟩ | ⟨kvs,k,b,e,ey,eb,l⟩
 ·subst ey;obtain⟨z,hd,vs,rel,dd⟩:=dk_rd I.hok e;obtain⟨w',hw,rw'⟩:=RelO.some_of (v:=v) (o:=valueAt vs k) (by rw [l];exact rel.val k)
  exact wpAny_getItem_of (kV_is ry) dd.mapOf hw (h w' _ (I.tok _) rw')
 ·subst ey;cases (show u=Value.ref b from ry)
  obtain⟨z,hd,xs,rel,dd⟩:=dt_rd I.hok e;obtain⟨w',hw,rw'⟩:=RelO.some_of (v:=v) (o:=(atKey xs k).map (·.2)) (by rw [l];exact rel.val k)
  obtain⟨p,hp,hp2⟩:=Option.map_eq_some_iff.mp hw;refine wpAny_getItem_heap (tupleKind_room_in1 hu) (key_of I.hok eb) dd hp ?_
  rw [hp2];exact h w' _ (I.tok _) rw'
theorem d_in {Q:Value->Shared->Prop}(hu:A.units+1 < cLine)(I:Inv X pins σ H s)(g:DGet H a y o)(ry:RelV y u)(h:∀ s',Inv X pins σ H s'->Q (.bool o.isSome) s') :
  wpAny (model X.prog X.w) A (compareOp .In u (.ref a)) Q E s:=by
 rcases g with ⟨kvs,k,e,ey,l⟩ | ⟨kvs,k,b,e,ey,eb,l⟩
 ·subst ey;obtain⟨z,hd,vs,rel,dd⟩:=dk_rd I.hok e;refine wpAny_in_of (kV_is ry) hd dd.mapOf ?_
  rw [<-(rel.val k).isSome_eq,<-l];exact h _ (I.tok _)
 ·subst ey;cases (show u=Value.ref b from ry)
  obtain⟨z,hd,xs,rel,dd⟩:=dt_rd I.hok e;refine wpAny_in_heap (tupleKind_room_in1 hu) (key_of I.hok eb) hd dd ?_
  have q:=(rel.val k).isSome_eq;rw [Option.isSome_map] at q;rw [<-q,<-l];exact h _ (I.tok _)
theorem d_notIn {Q:Value->Shared->Prop}(hu:A.units+1 < cLine)(I:Inv X pins σ H s)(g:DGet H a y o)(ry:RelV y u)(h:∀ s',Inv X pins σ H s'->Q (.bool (!o.isSome)) s') :
  wpAny (model X.prog X.w) A (compareOp .NotIn u (.ref a)) Q E s:=by
 rcases g with ⟨kvs,k,e,ey,l⟩ | ⟨kvs,k,b,e,ey,eb,l⟩
 ·subst ey;obtain⟨z,hd,vs,rel,dd⟩:=dk_rd I.hok e;refine wpAny_notIn_of (kV_is ry) hd dd.mapOf ?_
  rw [<-(rel.val k).isSome_eq,<-l];exact h _ (I.tok _)
 ·subst ey;cases (show u=Value.ref b from ry)
  obtain⟨z,hd,xs,rel,dd⟩:=dt_rd I.hok e;refine wpAny_notIn_heap (tupleKind_room_in1 hu) (key_of I.hok eb) hd dd ?_
  have q:=(rel.val k).isSome_eq;rw [Option.isSome_map] at q;rw [<-q,<-l];exact h _ (I.tok _)
theorem d_write {h':Heap}{t':Nat}{ob:HO}(I:Inv X pins σ H s)(mu:Mut (H a))(hs:Heap.SameBut a s.heap h')(he:∃ q,h'.get? a=some q)(new:ObjOk X.prog X.w (upd H a ob) h' a ob) :
  Inv X pins σ (upd H a ob) {s with heap:=h',toks:=t'} :=
 I.write (x:=a) (e:=a) mu (.inl rfl) (fun b q hb z=>(hs.2 b hb).trans z) he new
theorem dk_new {P:Program}{w:World}{H':Hp}{h':Heap}{kvs:List (Key×V)}{vs:List (Key×Value)}(z:kvs.length<=sizeLine)(hd:(a==sysModules)=false)(rel:KV kvs vs)(dd:h'.DictOf (aS P w) a vs) :
  ObjOk P w H' h' a (.dK kvs):=⟨z,hd,vs,rel,dd⟩
theorem d_setItem {H':Hp}{Q:Unit->Shared->Prop}(hu:A.units+1 < cLine)(I:Inv X pins σ H s)(g:DPut H a y v H')(ry:RelV y u)(rv:RelV v r)(h:∀ s',Inv X pins σ H' s'->Q () s') :
  wpAny (model X.prog X.w) A (setItem (.ref a) u r) Q E s:=by
 rcases g with ⟨kvs,k,e,ey,l,eH⟩ | ⟨kvs,k,b,e,ey,eb,l,eH⟩
 ·subst ey eH;obtain⟨z,hd,vs,rel,dd⟩:=dk_of I.hok e;have hz:vs.length<=sizeLine:=by rw [<-rel.length];exact z
  have hl:(putK kvs k v).length<=sizeLine:=by have:=length_putK kvs k v;omega
  refine wpAny_setItem_pairs (hsz:=hz) (kV_is ry) dd fun h' dd' hs=>h _ ?_
  have he:∃ q,h'.get? a=some q:=let ⟨q,_,_,hq,_⟩:=dd';⟨q,hq⟩
  exact d_write I (by rw [e];exact True.intro) hs he (dk_new hl hd (rel.put k rv) dd')
 ·subst ey eH;cases (show u=Value.ref b from ry)
  obtain⟨z,hd,xs,rel,dd⟩:=dt_of I.hok e;have hz:xs.length<=sizeLine:=by rw [<-Paired.length rel];exact z
  have hl:(putK kvs k v).length<=sizeLine:=by have:=length_putK kvs k v;omega
  refine wpAny_setItem_heap (hsz:=hz) (tupleKind_room_in1 hu) (key_of I.hok eb) dd fun h' dd' hs=>h _ ?_
  obtain⟨q,es,ep,hq,h2,h3,h4,_,h5⟩:=dd';refine d_write I (by rw [e];exact True.intro) hs ⟨q,hq⟩ ⟨hl,hd,_,(rel.put k eb rv).keeps fun c ys ec=>?_,q,es,ep,hq,h2,h3,h4,h5⟩
  rw [uN (bB ec e (fun z=>nomatch z))]
  exact ec
end
section
variable {X:Cx}{pins:List (Addr×Obj)}{σ:St}{H:Hp}{s:Shared}{a:Addr}{kvs:List (Key×V)}{k:Key}{u:Value}{A:Around}{E:Value->Shared->Prop}
theorem d_delItem {Q:Unit->Shared->Prop}(I:Inv X pins σ H s)(e:H a=some (.dK kvs))(ry:RelV (kV k) u)(l:(cF kvs k).isSome=true)(h:∀ s',Inv X pins σ (upd H a (.dK (dropK kvs k))) s'->Q () s') :
  wpAny (model X.prog X.w) A (delItem (.ref a) u) Q E s:=by
 obtain⟨z,hd,vs,rel,dd⟩:=dk_of I.hok e
 refine wpAny_delItem_slot dd.typeIs (by decide) PySem.F.slot_dict_delitem
  (call_meetsIn PySem.F.slot_dict_delitem dd.typeIs PySem.F.entry_dict_delitem (PySem.F.args_dict_delitem_2 _ _) (meets_dict_delitem_pairs (aS X.prog X.w) a (kV_is ry)) ⟨vs,dd,by rw [<-rel.length];exact z,by rw [<-(rel.val k).isSome_eq];exact l,fun h' dd' hs=>h _ ?_⟩)
 have he:∃ q,h'.get? a=some q:=let ⟨q,_,_,hq,_⟩:=dd';⟨q,hq⟩
 exact d_write I (by rw [e];exact True.intro) hs he (dk_new (Nat.le_trans (dropK_le kvs k) z) hd (rel.drop k) dd')
theorem d_pop {v:V}{more:List Value}{Q:Value->Shared->Prop}(I:Inv X pins σ H s)(e:H a=some (.dK kvs))(ry:RelV (kV k) u)(l:cF kvs k=some v)(hm:more=[]\/∃ x,more=[x])
  (h:∀ w' s',Inv X pins σ (upd H a (.dK (dropK kvs k))) s'->RelV v w'->Q w' s'):wpAny (model X.prog X.w) A (call (.builtin "dict.pop") (.ref a::u::more)) Q E s:=by
 obtain⟨z,hd,vs,rel,dd⟩:=dk_of I.hok e;obtain⟨w',hw,rw'⟩:=RelO.some_of (v:=v) (o:=valueAt vs k) (by rw [<-l];exact rel.val k)
 have hp:(keyPart u).isSome=true:=by
  cases k with
  | inl i=>obtain⟨t,q⟩:=(show ∃ t,u=Value.int i t from ry);subst q;rfl
  | inr x=>obtain⟨t,q⟩:=(show ∃ t,u=Value.str x t from ry);subst q;rfl
 have ha:argsOk "dict.pop" ⟨.ref a::u::more,[]⟩:=by
  rcases hm with q | ⟨x,q⟩
  ·subst q;exact PySem.F.args_dict_pop_2 _ _
  ·subst q;exact PySem.F.args_dict_pop_3 _ _ _
 refine call_meetsIn PySem.F.slot_dict_pop dd.typeIs PySem.F.entry_dict_pop ha (meets_dict_pop_there (aS X.prog X.w) a (kV_is ry) more hm hp)
  ⟨vs,w',dd,by rw [<-rel.length];exact z,hw,fun h' dd' hs=>h w' _ ?_ rw'⟩
 have he:∃ q,h'.get? a=some q:=let ⟨q,_,_,hq,_⟩:=dd';⟨q,hq⟩
 exact d_write I (by rw [e];exact True.intro) hs he (dk_new (Nat.le_trans (dropK_le kvs k) z) hd (rel.drop k) dd')
theorem d_len {Q:Value->Shared->Prop}(I:Inv X pins σ H s)(e:Rd H a (.dK kvs))(h:∀ t s',Inv X pins σ H s'->Q (.int kvs.length t) s'):wpAny (model X.prog X.w) A (call (.builtin "len") [.ref a]) Q E s:=by
 obtain⟨z,hd,vs,rel,dd⟩:=dk_rd I.hok e;refine call_len_dict hd dd (by rw [<-rel.length];rw [sizeLine_eq] at z;omega) ?_
 rw [<-rel.length];exact h _ _ (I.tok _)
end
def NoSl (i:Expr):Prop:=∀ ov iv,subscripted i false ov iv=operate [ov,iv] (getItem ov iv)
theorem subD_of {prog:Program}{w:World}{A:Around}{E:Value->Shared->Prop}{s:Shared}{env:Env}{value slice:Expr}{pos:Pos}{T id:String}{Q:Value->Shared->Prop}
  (hl:typeLookup (.type T) "__getitem__" = pure (some (.builtin id)))(hs:NoSl slice)
  (h:wpAny (model prog w) A (eval value env) (fun o s₁=>wpAny (model prog w) A (eval slice env) (fun i s₂=>s₂.TypeIs o T/\wpAny (model prog w) A (getItem o i) Q E s₂) E s₁) E s) :
  wpAny (model prog w) A (eval (.Subscript value slice pos) env) Q E s:=by
 refine Subscript_ (wpAny_mono h (fun o s₁ h₁=>wpAny_mono h₁ (fun i s₂ h₂=>?_) fun _ _ x=>x) fun _ _ x=>x)
 obtain⟨hT,h₂⟩:=h₂;unfold subscriptTail;refine wpAny_bind ?_
 rw [getitemInPython_of_ne hT.not_modules];refine wpAny_bind (wpAny_specialOf hT hl ?_)
 have fin:wpAny (model prog w) A (subscripted slice false o i) (fun r s₃=>wpAny (model prog w) A (letTemporaryGo value o r >>= fun _=>pure r) Q E s₃) E s₂:=by
  rw [hs o i];exact wpAny_operating (wpAny_mono h₂ (fun r s₃ h₃=>wpAny_bind (wpAny_letTemporaryGo (wpAny_pure h₃))) fun _ _ x=>x)
 first
  | exact wpAny_pure (wpAny_bind fin)
  | exact wpAny_bind (wpAny_pure (wpAny_bind fin))
  | exact wpAny_bind fin
theorem dict_typeIs {X:Cx}{pins:List (Addr×Obj)}{σ:St}{H:Hp}{s:Shared}{a:Addr}{y:V}{o:Option V}(I:Inv X pins σ H s)(g:DGet H a y o):s.TypeIs (.ref a) "dict" := by
 rcases g with ⟨kvs,k,e,_,_⟩ | ⟨kvs,k,b,e,_,_,_⟩
 ·obtain⟨_,_,vs,_,dd⟩:=dk_rd I.hok e;exact dd.typeIs
 ·obtain⟨_,_,xs,_,dd⟩:=dt_rd I.hok e;exact dd.typeIs
def tDGet (td ty:TE):TE:=fun σ H Q=>td σ H fun x H1=>ty σ H1 fun y H2=>∃ a v,x=.ref a/\DGet H2 a y (some v)/\Q v H2
def tDIn (ty td:TE):TE:=fun σ H Q=>ty σ H fun y H1=>td σ H1 fun x H2=>∃ a o,x=.ref a/\DGet H2 a y o/\Q (.bl o.isSome) H2
def tDNotIn (ty td:TE):TE:=fun σ H Q=>ty σ H fun y H1=>td σ H1 fun x H2=>∃ a o,x=.ref a/\DGet H2 a y o/\Q (.bl (!o.isSome)) H2
def sDPut (td ty tv:TE):TS:=fun D σ H=>tv σ H fun v H1=>td σ H1 fun x H2=>ty σ H2 fun y H3=>∃ a H4,x=.ref a/\DPut H3 a y v H4/\D.nx σ H4
section
variable {X:Cx}{o i e value:Expr}{pos pos' tpos:Pos}{td ty tv:TE}
theorem hG (hu:X.A.units+1 < cLine)(ho:PE X o td)(hi:PE X i ty)(hs:NoSl i):PE X (.Subscript o i pos) (tDGet td ty):=by
 intro pins s σ H Q I h;refine subD_of PySem.F.slot_dict_getitem.lookup hs (thn (ho pins s σ H _ I h) fun u s1 ⟨x,H1,I1,rx,q1⟩=>thn (hi pins s1 σ H1 _ I1 q1) fun iv s2 ⟨y,H2,I2,ry,a,v,ex,g,q2⟩=>?_)
 subst ex;obtain rfl:u=Value.ref a:=rx
 exact⟨dict_typeIs I2 g,d_getItem hu I2 g ry fun w' s3 I3 rw'=>⟨v,H2,I3,rw',q2⟩⟩
theorem pc_din (hu:X.A.units+1 < cLine)(hi:PE X i ty)(ho:PE X o td):PC X .In i o (tDIn ty td):=by
 intro pins s σ H Q I h;refine thn (hi pins s σ H _ I h) fun iv s1 ⟨y,H1,I1,ry,q1⟩=>thn (ho pins s1 σ H1 _ I1 q1) fun u s2 ⟨x,H2,I2,rx,a,ov,ex,g,q2⟩=>?_
 subst ex;obtain rfl:u=Value.ref a:=rx
 exact d_in hu I2 g ry fun s3 I3=>⟨.bl ov.isSome,H2,I3,rfl,q2⟩
theorem pc_dnotin (hu:X.A.units+1 < cLine)(hi:PE X i ty)(ho:PE X o td):PC X .NotIn i o (tDNotIn ty td):=by
 intro pins s σ H Q I h;refine thn (hi pins s σ H _ I h) fun iv s1 ⟨y,H1,I1,ry,q1⟩=>thn (ho pins s1 σ H1 _ I1 q1) fun u s2 ⟨x,H2,I2,rx,a,ov,ex,g,q2⟩=>?_
 subst ex;obtain rfl:u=Value.ref a:=rx
 exact d_notIn hu I2 g ry fun s3 I3=>⟨.bl (!ov.isSome),H2,I3,rfl,q2⟩
theorem ps_dput (hu:X.A.units+1 < cLine)(ho:PE X o td)(hi:PE X i ty)(hv:PE X value tv)(hs:swapsWith value (some (.Subscript o i pos')) pos.line X.env=pure false) :
  PS X (.Assign [.Subscript o i pos'] value pos) (sDPut td ty tv):=by
 intro pins s σ H D I h;refine wpAny_Assign_Subscript (thn (hv pins s σ H _ I h) fun r s1 ⟨v,H1,I1,rv,q1⟩=>thn (ho pins s1 σ H1 _ I1 q1) fun u s2 ⟨x,H2,I2,rx,q2⟩=>thn (hi pins s2 σ H2 _ I2 q2) fun iv s3 ⟨y,H3,I3,ry,a,H4,ex,g,q3⟩=>?_) hs
 subst ex;obtain rfl:u=Value.ref a:=rx
 exact d_setItem hu I3 g ry rv fun s4 I4=>⟨σ,H4,I4,q3⟩
end
theorem dk_empty {P:Program}{w:World}{H:Hp}(h:Heap)(hb:sysModules < h.objs.size):ObjOk P w H (h.push {cls:=.type "dict",data:=.dict #[]}) h.objs.size (.dK []) :=
 ⟨Nat.zero_le _,beq_eq_false_iff_ne.mpr (Ne.symm (Nat.ne_of_lt hb)),[],.nil,Heap.DictOf.new h⟩
theorem dt_empty {P:Program}{w:World}{H:Hp}(h:Heap)(hb:sysModules < h.objs.size):ObjOk P w H (h.push {cls:=.type "dict",data:=.dict #[]}) h.objs.size (.dT []) :=
 ⟨Nat.zero_le _,beq_eq_false_iff_ne.mpr (Ne.symm (Nat.ne_of_lt hb)),[],.nil,_,#[],0,Heap.get?_push_size _ rfl,⟨rfl,rfl,rfl⟩,rfl,rfl,List.nodup_nil⟩
def tDNewK:TE:=fun _ H Q=>∀ p,H p=none->Q (.ref p) (upd H p (.dK []))
def tDNewT:TE:=fun _ H Q=>∀ p,H p=none->Q (.ref p) (upd H p (.dT []))
section
variable {X:Cx}{pos:Pos}
theorem pe_dnewK:PE X (.Dict [] [] pos) tDNewK:=fun pins s σ H Q I h =>
 wpAny_Dict_empty ⟨.ref s.heap.objs.size,_,I.laid (a:=s.heap.objs.size) (o:=.dK []) (t':=s.toks) (fun _ _ q=>Heap.get?_push_of_some _ q) (Nat.le_refl _) (dk_empty s.heap I.big),rfl,h _ (I.hok.fresh (Nat.le_refl _))⟩
theorem pe_dnewT:PE X (.Dict [] [] pos) tDNewT:=fun pins s σ H Q I h =>
 wpAny_Dict_empty ⟨.ref s.heap.objs.size,_,I.laid (a:=s.heap.objs.size) (o:=.dT []) (t':=s.toks) (fun _ _ q=>Heap.get?_push_of_some _ q) (Nat.le_refl _) (dt_empty s.heap I.big),rfl,h _ (I.hok.fresh (Nat.le_refl _))⟩
end
structure M1 (X:Cx)(o:Expr)(m:Str)(apos:Pos)(e:Expr)(cpos:Pos):Prop where
 base:attributeBase o m X.env (eval o X.env)=eval o X.env
 few:((backTo cpos (starEach [e] X.env)).all (fun x=>!x.1)&&(backToKw cpos (keywordEach [] X.env)).all (fun x=>x.1.isSome)
  && decide (([e]:List Expr).length+([]:List Keyword).length+(if ([]:List Keyword).isEmpty then 0 else 1) < 30))=true
 line:(apos.endLine==cpos.line)=true
 trees:backTo cpos (starEach [e] X.env)=[(false,eval e X.env)]
structure M2 (X:Cx)(o:Expr)(m:Str)(apos:Pos)(e f:Expr)(cpos:Pos):Prop where
 base:attributeBase o m X.env (eval o X.env)=eval o X.env
 few:((backTo cpos (starEach [e,f] X.env)).all (fun x=>!x.1)&&(backToKw cpos (keywordEach [] X.env)).all (fun x=>x.1.isSome)
  && decide (([e,f]:List Expr).length+([]:List Keyword).length+(if ([]:List Keyword).isEmpty then 0 else 1) < 30))=true
 line:(apos.endLine==cpos.line)=true
 trees:backTo cpos (starEach [e,f] X.env)=[(false,eval e X.env),(false,eval f X.env)]
def IsD (H:Hp)(a:Addr):Prop:=(∃ kvs,Rd H a (.dK kvs))\/∃ kvs,Rd H a (.dT kvs)
theorem isD_at {X:Cx}{pins:List (Addr×Obj)}{σ:St}{H:Hp}{s:Shared}{a:Addr}(I:Inv X pins σ H s)(d:IsD H a) :
  s.TypeIs (.ref a) "dict" /\ (∀ b,Value.ref a=.ref b->∃ ob,s.heap.get? b=some ob/\ob.dict=none)/\(a==sysModules)=false:=by
 rcases d with ⟨kvs,e⟩ | ⟨kvs,e⟩
 ·obtain⟨_,hd,vs,_,dd⟩:=dk_rd I.hok e;refine⟨dd.typeIs,fun b q=>?_,hd⟩
  cases q;obtain⟨ob,_,_,h1,h2,_⟩:=dd;exact⟨ob,h1,h2.2.1⟩
 ·obtain⟨_,hd,xs,_,dd⟩:=dt_rd I.hok e;refine⟨dd.typeIs,fun b q=>?_,hd⟩
  cases q;obtain⟨ob,_,_,h1,h2,_⟩:=dd;exact⟨ob,h1,h2.2.1⟩
section
variable {X:Cx}{pins:List (Addr×Obj)}{σ:St}{H:Hp}{s:Shared}{a:Addr}{y d:V}{u r:Value}{o:Option V}{A:Around}{E:Value->Shared->Prop}
theorem d_get1 {Q:Value->Shared->Prop}(hu:A.units+1 < cLine)(I:Inv X pins σ H s)(g:DGet H a y o)(ry:RelV y u)(h:∀ w' s',Inv X pins σ H s'->RelV (o.getD .non) w'->Q w' s') :
  wpAny (model X.prog X.w) A (call (.builtin "dict.get") [.ref a,u]) Q E s:=by
 rcases g with ⟨kvs,k,e,ey,l⟩ | ⟨kvs,k,b,e,ey,eb,l⟩
 ·subst ey;obtain⟨z,hd,vs,rel,dd⟩:=dk_rd I.hok e;refine call_meetsIn PySem.F.slot_dict_get dd.typeIs PySem.F.entry_dict_get (PySem.F.args_dict_get_2 _ _) (meets_dict_get (aS X.prog X.w) a (kV_is ry) hd) ⟨_,dd.mapOf,h _ _ (I.tok _) ?_⟩
  rw [l];exact(rel.val k).getD rfl
 ·subst ey;cases (show u=Value.ref b from ry)
  obtain⟨z,hd,xs,rel,dd⟩:=dt_rd I.hok e;refine call_meetsIn PySem.F.slot_dict_get dd.typeIs PySem.F.entry_dict_get (PySem.F.args_dict_get_2 _ _) (meetsH_dict_get (tupleKind (aS X.prog X.w)) a b hd) ⟨tupleKind_room_in1 hu,k,xs,key_of I.hok eb,dd,h _ _ (I.tok _) ?_⟩
  rw [l];exact(rel.val k).getD rfl
theorem d_get2 {Q:Value->Shared->Prop}(hu:A.units+1 < cLine)(I:Inv X pins σ H s)(g:DGet H a y o)(ry:RelV y u)(rd:RelV d r)(h:∀ w' s',Inv X pins σ H s'->RelV (o.getD d) w'->Q w' s') :
  wpAny (model X.prog X.w) A (call (.builtin "dict.get") [.ref a,u,r]) Q E s:=by
 rcases g with ⟨kvs,k,e,ey,l⟩ | ⟨kvs,k,b,e,ey,eb,l⟩
 ·subst ey;obtain⟨z,hd,vs,rel,dd⟩:=dk_rd I.hok e;refine call_meetsIn PySem.F.slot_dict_get dd.typeIs PySem.F.entry_dict_get (PySem.F.args_dict_get_3 _ _ _) (meets_dict_get_default (aS X.prog X.w) a (kV_is ry) hd r) ⟨_,dd.mapOf,h _ _ (I.tok _) ?_⟩
  rw [l];exact(rel.val k).getD rd
 ·subst ey;cases (show u=Value.ref b from ry)
  obtain⟨z,hd,xs,rel,dd⟩:=dt_rd I.hok e;refine call_meetsIn PySem.F.slot_dict_get dd.typeIs PySem.F.entry_dict_get (PySem.F.args_dict_get_3 _ _ _) (meetsH_dict_get_default (tupleKind (aS X.prog X.w)) a b hd r) ⟨tupleKind_room_in1 hu,k,xs,key_of I.hok eb,dd,h _ _ (I.tok _) ?_⟩
  rw [l];exact(rel.val k).getD rd
end
def tDGet1 (td ty:TE):TE:=fun σ H Q=>td σ H fun x H1=>∃ a,x=.ref a/\IsD H1 a/\ty σ H1 fun y H2=>∃ o,DGet H2 a y o/\Q (o.getD .non) H2
def tDGet2 (td ty tx:TE):TE:=fun σ H Q=>td σ H fun x H1=>∃ a,x=.ref a/\IsD H1 a/\ty σ H1 fun y H2=>tx σ H2 fun z H3=>∃ o,DGet H3 a y o/\Q (o.getD z) H3
def tDPop1 (td ty:TE):TE:=fun σ H Q=>td σ H fun x H1=>∃ a,x=.ref a/\IsD H1 a/\ty σ H1 fun y H2=>∃ kvs k v,H2 a=some (.dK kvs)/\y=kV k/\cF kvs k=some v/\Q v (upd H2 a (.dK (dropK kvs k)))
section
variable {X:Cx}{o e f:Expr}{apos cpos:Pos}{td ty tx:TE}
theorem pe_dget1 (hu:X.A.units+1 < cLine)(ho:PE X o td)(he:PE X e ty)(m:M1 X o "get" apos e cpos):PE X (.Call (.Attribute o "get" apos) [e] [] cpos) (tDGet1 td ty):=by
 intro pins s σ H Q I h;refine wpAny_Call_method m.base m.few m.line PySem.F.plainAttrs_dict PySem.F.slot_dict_get PySem.F.type_dict_get (thn (ho pins s σ H _ I h) fun u s1 ⟨x,H1,I1,rx,a,ex,d,q1⟩=>?_)
 subst ex;obtain rfl:u=Value.ref a:=rx
 obtain⟨t1,t2,_⟩:=isD_at I1 d;refine⟨t1,t2,?_⟩
 rw [m.trees];refine Calls.callWith_builtin rfl (Calls.evalArgs_plain (Calls.spliced_cons (thn (he pins s1 σ H1 _ I1 q1) fun iv s2 ⟨y,H2,I2,ry,ov,g,q2⟩=>Calls.spliced_nil ?_)))
 exact d_get1 hu I2 g ry fun w' s3 I3 rw'=>⟨_,H2,I3,rw',q2⟩
theorem pe_dget2 (hu:X.A.units+1 < cLine)(ho:PE X o td)(he:PE X e ty)(hf:PE X f tx)(m:M2 X o "get" apos e f cpos):PE X (.Call (.Attribute o "get" apos) [e,f] [] cpos) (tDGet2 td ty tx):=by
 intro pins s σ H Q I h;refine wpAny_Call_method m.base m.few m.line PySem.F.plainAttrs_dict PySem.F.slot_dict_get PySem.F.type_dict_get (thn (ho pins s σ H _ I h) fun u s1 ⟨x,H1,I1,rx,a,ex,d,q1⟩=>?_)
 subst ex;obtain rfl:u=Value.ref a:=rx
 obtain⟨t1,t2,_⟩:=isD_at I1 d;refine⟨t1,t2,?_⟩
 rw [m.trees]
 refine Calls.callWith_builtin rfl (Calls.evalArgs_plain (Calls.spliced_cons (thn (he pins s1 σ H1 _ I1 q1) fun iv s2 ⟨y,H2,I2,ry,q2⟩ =>
  Calls.spliced_cons (thn (hf pins s2 σ H2 _ I2 q2) fun fv s3 ⟨z,H3,I3,rz,ov,g,q3⟩=>Calls.spliced_nil ?_))))
 exact d_get2 hu I3 g ry rz fun w' s4 I4 rw'=>⟨_,H3,I4,rw',q3⟩
theorem pe_dpop1 (ho:PE X o td)(he:PE X e ty)(m:M1 X o "pop" apos e cpos):PE X (.Call (.Attribute o "pop" apos) [e] [] cpos) (tDPop1 td ty):=by
 intro pins s σ H Q I h;refine wpAny_Call_method m.base m.few m.line PySem.F.plainAttrs_dict PySem.F.slot_dict_pop PySem.F.type_dict_pop (thn (ho pins s σ H _ I h) fun u s1 ⟨x,H1,I1,rx,a,ex,d,q1⟩=>?_)
 subst ex;obtain rfl:u=Value.ref a:=rx
 obtain⟨t1,t2,_⟩:=isD_at I1 d;refine⟨t1,t2,?_⟩
 rw [m.trees];refine Calls.callWith_builtin rfl (Calls.evalArgs_plain (Calls.spliced_cons (thn (he pins s1 σ H1 _ I1 q1) fun iv s2 ⟨y,H2,I2,ry,kvs,k,v,ea,ey,l,q2⟩=>Calls.spliced_nil ?_)))
 subst ey;exact d_pop I2 ea ry l (.inl rfl) fun w' s3 I3 rw'=>⟨v,_,I3,rw',q2⟩
end
end L2
namespace L2
open PySem PySem.Spec PyProof.Rows
section
variable {X:Cx}
theorem refs_at:∀ {ps:List Addr}{us:List Value},Vals (ps.map V.ref) us->us=ps.map Value.ref
 | [],us,r=>by
  rw [List.map_nil] at r;cases r;rfl
 | p::ps,us,r=>by
  rw [List.map_cons] at r;cases r with
  | cons h t =>
   cases h;rw [List.map_cons,<-refs_at t]
end
end L2
namespace L2
open PySem PySem.Spec PyProof.Rows
section
variable {X:Cx}{pins:List (Addr×Obj)}{σ:St}{H:Hp}{s:Shared}{h':Heap}
theorem Inv.turnedNew {t':Nat}{ch:List Addr}{T:Addr}{ob:HO}(I:Inv X pins σ H s)(k:∀ b o,b ∉ ch->s.heap.get? b=some o->h'.get? b=some o)(hf:∀ b∈ch,FpOk X pins H b)(hT:s.heap.objs.size<=T)
  (new:ObjOk X.prog X.w (upd H T ob) h' T ob):Inv X pins σ (upd H T ob) {s with heap:=h',toks:=t'}:=by
 have hn:H T=none:=I.hok.fresh hT
 have nit:∀ b u,H b=some u->b ∉ ch:=fun b u e z=>by
  have q:=(hf b z).1;rw [q] at e;cases e
 refine I.step (g':=s.gens) (d':=s.drawn) (ch:=ch) (fun b hb=>⟨(hf b hb).2.2.2.1,(hf b hb).2.1,(hf b hb).2.2.2.2.1,(hf b hb).2.2.2.2.2⟩) (fun b o _ _ hc e _=>k b o hc e) (fun b o _ _ hc e _=>⟨o.slots,k b o hc e⟩)
  (fun b o _ e n=>?_) (fun b o hc e=>⟨o,k b o hc e⟩) (fun b xs e=>?_) (fun b o u e=>?_) (fun b ps e=>⟨#[],?_⟩) (fun m hm=>?_) (fun b u e=>?_) I.bare
 ·rw [uN (Nat.ne_of_lt (Nat.lt_of_lt_of_le (Heap.lt_size e) hT))];exact n
 ·rw [uN (nN e hn)];exact e
 ·rw [uN (nN e hn)];exact e
 ·rw [uN (nN e hn),e];simp
 ·obtain⟨o,es,ep,ho,r⟩:=hm;exact⟨o,es,ep,k _ o (fun z=>(hf _ z).2.1 rfl) ho,r⟩
 ·by_cases hb:b=T
  ·subst hb;rw [uS] at e;cases e;exact new
  ·rw [uN hb] at e;refine(I.hok b u e).stay (fun c v hc q=>k c v ?_ q) (fun c q=>by rw [uN (nN q hn)];exact q) fun c xs q=>by rw [uN (nN q hn)];exact q
   rcases hc with z | z
   ·rw [z];exact nit b u e
   ·exact nit c _ z
end
section
variable {X:Cx}
theorem pi_one {tg:Expr}{pins:List (Addr×Obj)}{σ:St}{H:Hp}{s:Shared}{R:It->Hp->Prop}{J:It}{tn:Nat->Heap->Prop}{tk:Nat}(I:Inv X pins σ H s)(o:Obj)
  (T:Turn X.prog X.w X.K tg J [s.heap.objs.size] s.heap.objs.size tn)(st:tn 0 (s.heap.push o))(q:R J H):PIE X pins σ tg R (.ref s.heap.objs.size) {s with heap:=s.heap.push o,toks:=tk}:=by
 refine⟨s.heap.objs.size,[s.heap.objs.size],tn,J,H,rfl,I.kept fun b ob e=>Heap.get?_push_of_some _ e,T,st,fun b hb=>?_,q⟩
 have e:b=s.heap.objs.size:=by simpa using hb
 subst e;exact I.fpOk (Nat.le_refl _) (I.hok.fresh (Nat.le_refl _))
end
def Its (x:Str):It:=⟨fun i _=>i < x.cps.size,fun i H v H'=>H'=H/\∃ c,x.cps[i]?=some c/\v=.str ⟨#[c]⟩,fun i _=>x.cps.size<=i⟩
theorem turn_str {P:Program}{w:World}{K:W.Frag}{tg:Expr}(it:Addr)(x:Str)(t:Tok)(ty:String)(hty:ty = "str_ascii_iterator" \/ ty = "str_iterator") :
  Turn P w K tg (Its x) [it] it (fun i h=>h.IsStrIter it ty x t i) where
 mem:=by simp
 obj:=fun i h st b hb=>by
  have e:b=it:=by simpa using hb
  subst e;obtain⟨o,e,c,d⟩:=st;exact⟨o,e,fun v z=>by rw [d] at z;cases z⟩
 keep:=fun i h h' st k=>let ⟨o,ho,r⟩:=st;⟨o,k it (by simp) o ho,r⟩
 item:=by
  intro X hP hw hK hc i pins s σ H E I hf st hg;subst hP hw hK;obtain⟨f0,f1,f2,f3,f4,f5⟩:=hf it (by simp)
  have W:Walks X.prog X.w X.A it [it] [it] x.cps.size (SignAt x) (fun i h=>h.IsStrIter it ty x t i):=by
   rcases hty with e | e
   ·rw [e];exact Walks.strAscii (I.ok.hd hc) it x t
   ·rw [e];exact Walks.strWide (I.ok.hd hc) it x t
  have hno:["enumerate","zip","dict_itemiterator","dict_reverseitemiterator","odict_iterator","itertools.zip_longest","itertools.pairwise"].contains ty=false:=by
   rcases hty with e | e
   ·rw [e];decide
   ·rw [e];decide
  refine W.item i s _ _ hg st fun v h' tk hv st' kk=>?_
  obtain⟨c,u,hcx,rfl⟩:=hv;have I1:Inv X pins σ H {s with heap:=h',toks:=tk}:=I.turned (fun b o hb e=>kk b o (by simpa using hb) e) f0 f1 f3 f4 f5
  obtain⟨oi,e,cc,dd⟩:=id st';exact⟨_,rfl,go_of (s:={s with heap:=h',toks:=tk}) e cc dd hno ⟨.str ⟨#[c]⟩,H,I1,⟨u,rfl⟩,⟨rfl,c,hcx,rfl⟩,st',fun b hb=>(hf b hb).1⟩⟩
 done:=by
  intro X hP hw hK hc i pins s σ H E I hf st hg;subst hP hw hK;obtain⟨f0,f1,f2,f3,f4,f5⟩:=hf it (by simp);have hx:x.cps[i]?=none:=Array.getElem?_eq_none hg
  rcases hty with e | e
  ·rw [e] at st;exact wpAny_pyNext_ascii_end (I.ok.hd hc) st hx fun h' eb=>⟨rfl,I.turned (t':=s.toks) (fun b o hb e=>eb b o hb e) f0 f1 f3 f4 f5⟩
  ·rw [e] at st;exact wpAny_pyNext_wide_end (I.ok.hd hc) st hx fun h' eb=>⟨rfl,I.turned (t':=s.toks) (fun b o hb e=>eb b o hb e) f0 f1 f3 f4 f5⟩
 self:=fun A i s Q E st h=>by
  rcases hty with e | e
  ·rw [e] at st;exact wpAny_pyIter_striter_ascii st h
  ·rw [e] at st;exact wpAny_pyIter_striter_wide st h
def iStr (te:TE):TI:=fun σ H R=>te σ H fun v H1=>∃ x,v=.str x/\R (Its x) H1
theorem pi_str {X:Cx}{tg e:Expr}{te:TE}(he:PE X e te):PI X tg e (iStr te):=by
 intro pins s σ H R I h;refine thn (he pins s σ H _ I h) fun v s1 ⟨y,H1,I1,r1,x,ex,q⟩=>?_
 subst ex;obtain⟨t,rfl⟩:=r1;cases ha:x.cps.all (· < 128)
 ·exact wpAny_pyIter_wide ha (pi_one (tk:=s1.toks) I1 _ (turn_str _ x t "str_iterator" (.inr rfl)) ⟨_,Heap.get?_push_size _ rfl,rfl,rfl⟩ q)
 ·exact wpAny_pyIter_ascii ha (pi_one (tk:=s1.toks) I1 _ (turn_str _ x t "str_ascii_iterator" (.inl rfl)) ⟨_,Heap.get?_push_size _ rfl,rfl,rfl⟩ q)
def Ite (K:W.Frag)(a:Addr):It :=
 ⟨fun i H=>∃ (xs:List V)(x:V),SqL K H a xs/\xs[i]?=some x,fun i H v H'=>∃ T x,v=.ref T/\H T=none/\H'=upd H T (.tup [.int (i:Nat),x])/\∀ xs,SqL K H a xs->xs[i]?=some x,fun i H=>∃ xs:List V,SqL K H a xs/\xs.length<=i⟩
theorem turn_enum {P:Program}{w:World}{K:W.Frag}{elts:List Expr}{kk:Nat}{tpos:Pos}(a e it:Addr) :
  Turn P w K (.Tuple elts kk tpos) (Ite K a) [e,it] e (fun i h=>(∃ old,IsEnum h e it ((i:Nat):Int) old)/\h.IsListIter it a i/\e≠it) where
 mem:=by simp
 obj:=fun i h st b hb=>by
  obtain⟨⟨old,he⟩,⟨o,ho,hc,hd⟩,_⟩:=st;have e':b=e\/b=it:=by simpa using hb
  rcases e' with z | z
  ·rw [z];exact⟨_,he,fun v q=>nomatch q⟩
  ·rw [z];exact⟨o,ho,fun v q=>by rw [hd] at q;cases q⟩
 keep:=fun i h h' st k=>let ⟨⟨old,he⟩,hi,hne⟩:=st;⟨⟨old,k e (by simp) _ he⟩,hi.at fun o q=>k it (by simp) o q,hne⟩
 item:=by
  intro X hP hw hK hc i pins s σ H E I hf st hg;subst hP hw hK;obtain⟨⟨old,he⟩,hit,hne⟩:=st;obtain⟨xs,x,hq,hx⟩:=hg;obtain⟨its,rv,p,hz⟩:=I.list hq;obtain⟨u,hu,ru⟩:=rv.get hx;have hel:e < s.heap.objs.size:=Heap.lt_size he
  have hil:it < s.heap.objs.size:=by obtain⟨_,q,_⟩:=hit;exact Heap.lt_size q
  refine wpAny_pyNext_enum_item he hit p.isList (x:=u) (by simpa using hu) hne fun h' ho hit' hT hsz hk=>?_
  refine⟨_,rfl,wpAny_letOwnedTupleGo_enum (s:={s with heap:=h',toks:=s.toks+1}) ho fun h'' he' sb=>?_⟩
  have hT2:h''.get? s.heap.objs.size=some {cls:=.type "tuple",data:=.seq #[.int i s.toks,u]}:=(sb.2 _ (Nat.ne_of_gt hel)).trans hT
  have new:ObjOk X.prog X.w (upd H s.heap.objs.size (.tup [.int (i:Nat),x])) h'' s.heap.objs.size (.tup [.int (i:Nat),x]) :=
   ⟨by show 2<=sizeLine;decide,[.int i s.toks,u],.cons ⟨_,rfl⟩ (.cons ru .nil),⟨_,hT2,rfl,⟨_,rfl⟩,rfl⟩⟩
  have I1:Inv X pins σ (upd H s.heap.objs.size (.tup [.int (i:Nat),x])) {s with heap:=h'',toks:=s.toks+1} :=
   I.turnedNew (ch:=[e,it]) (fun b ob hb q=>(sb.2 b (fun z=>hb (by simp [z]))).trans (hk b ob (fun z=>hb (by simp [z])) (fun z=>hb (by simp [z])) q)) hf (Nat.le_refl _) new
  refine⟨.ref s.heap.objs.size,_,I1,rfl,⟨_,x,rfl,I.hok.fresh (Nat.le_refl _),rfl,fun ys hy=>by rw [I.list_inj hy hq];exact hx⟩,⟨⟨u,?_⟩,hit'.at fun o q=>(sb.2 it (Ne.symm hne)).trans q,hne⟩,fun b hb=>?_⟩
  ·have e1:((i+1:Nat):Int)=(i:Int)+1:=by omega
   rw [e1];exact he'
  ·have hb':b < s.heap.objs.size:=by
    have e':b=e\/b=it:=by simpa using hb
    rcases e' with z | z
    ·rw [z];exact hel
    ·rw [z];exact hil
   rw [uN (Nat.ne_of_lt hb')];exact(hf b hb).1
 done:=by
  intro X hP hw hK hc i pins s σ H E I hf st hg;subst hP hw hK;obtain⟨⟨old,he⟩,hit,hne⟩:=st;obtain⟨xs,hq,hx⟩:=hg;obtain⟨its,rv,p,hz⟩:=I.list hq;obtain⟨f0,f1,f2,f3,f4,f5⟩:=hf it (by simp);have hl:=rv.length;exact wpAny_pyNext_enum_end (I.ok.hd hc) he hit p.isList (by simp;omega) fun h' eb=>⟨rfl,I.turned (t':=s.toks) (fun b o hb q=>eb b o hb q) f0 f1 f3 f4 f5⟩
 self:=fun A i s Q E st h=>let ⟨⟨_,he⟩,_⟩:=st;wpAny_pyIter_enum he h
def iEnum (K:W.Frag)(ta:TA):TI:=fun σ H R=>ta σ H fun vs H1=>∃ a xs,vs=[.ref a]/\SqL K H1 a xs/\R (Ite K a) H1
theorem pi_enum {X:Cx}{e:Expr}{ta:TA}{p pos tpos:Pos}{elts:List Expr}{kk:Nat}(hg:Gl X "enumerate")(hm:X.mg "enumerate" = none)(ha:PA X [e] ta)(hs:starEach [e] X.env=[(false,eval e X.env)]:=by rfl) :
  PI X (.Tuple elts kk tpos) (.Call (.Name "enumerate" p) [e] [] pos) (iEnum X.K ta):=by
 intro pins s σ H R I h;refine Call_ (ld_blt I hg hm boot_enumerate (PyProof.Rows.callWith_type1 (thn (ha pos pins s σ H _ I h) fun us s1 ⟨vs,H1,I1,r1,q1⟩=>?_) hs rfl))
 obtain⟨a,xs,ex,hq,q⟩:=q1;subst ex;cases r1 with
 | cons r rr =>
  cases rr;cases r;obtain⟨its,rv,p',hz⟩:=I1.list hq;refine call_enumerate_list p'.isList fun h' he hit hsz hk=>wpAny_pyIter_enum he ?_
  have I2:Inv X pins σ H1 {s1 with heap:=h'}:=I1.kept (t':=s1.toks) hk
  refine⟨s1.heap.objs.size+1,[s1.heap.objs.size+1,s1.heap.objs.size],_,_,H1,rfl,I2,turn_enum a (s1.heap.objs.size+1) s1.heap.objs.size,⟨⟨.none,he⟩,hit,Nat.succ_ne_self _⟩,fun b hb=>?_,q⟩
  have e':b=s1.heap.objs.size+1\/b=s1.heap.objs.size:=by simpa using hb
  have hle:s1.heap.objs.size<=b:=by
   rcases e' with z | z
   ·rw [z];exact Nat.le_add_right _ _
   ·rw [z];exact Nat.le_refl _
  exact I1.fpOk hle (I1.hok.fresh hle)
end L2
namespace L2
open PySem PySem.Spec PyProof.Rows
abbrev CX0:CXT:=fun _ _ _ _ _ _=>False
abbrev E0:XK:=fun _ _ _=>False
theorem pass0 {X:Cx}:Passes CX0 X E0:=fun _ _ _ _ _ _ _ h=>h.elim
structure Fun (K:W.Frag)(x qual:Str)(st:Stmt)(f:Addr)(fd:FuncData):Prop where
 ex:∃ (oc:Value)(od:Option Addr)(kV doc pm:Value)(an:Option Addr)(cdv ct:Value)(osl:Array (Option Value)),
  fd=W.fnOf x qual (hX st) (fT st) (dS st) .none kV doc pm an cdv ct/\K.lookup f=some ⟨oc,od,.func fd,osl⟩/\W.codeIn K cdv qual=true
 kp:W.keepIn K (.ref f)=true
section
variable {P:Program}{w:World}{K:W.Frag}{mg:Str->Option Value}{base:Heap}
theorem Fun.ok {x qual:Str}{st:Stmt}{f:Addr}{fd:FuncData}{N ps:List Str}{k:Nat}{sp:Sp}(F:Fun K x qual st f fd)(S:fS N ps (dS st))(len:∀ vs H Q E,sp vs H Q E->vs.length=ps.length)
  (hbody:∀ (cdv:Value)(A:Around)(outer:List Env)(s:Shared)(H:Hp)(vs:List V)(Q:VK)(E:XK),Room k (A.deeper (envOfC qual (dS st) s.heap.objs.size f cdv))->sp vs H Q E ->
   ∃ t,PSs (cxOf CX0 P w K mg base N qual (dS st) f cdv A outer s H E).nox (fT st) t/\t {nx:=fun _ H'=>Q .non H',rt:=Q} (start N vs) H):FnOk P w K mg base CX0 (k+1) f fd ps sp:=by
 obtain⟨oc,od,kV,doc,pm,an,cdv,ct,osl,rfl,lk,hcd⟩:=F.ex;refine fn_of lk hcd S len fun A outer s H vs Q E hr hsp=>?_
 obtain⟨t,h,q⟩:=hbody cdv A outer s H vs Q E hr hsp;exact⟨t,h.nox,q⟩
theorem Fun.binds {x qual:Str}{st:Stmt}{f:Addr}{fd:FuncData}{ps:List Str}(F:Fun K x qual st f fd)
  (h:∀ (kV doc pm:Value)(an:Option Addr)(cdv ct:Value)(us:List Value),us.length=ps.length->bindArgs (W.fnOf x qual (hX st) (fT st) (dS st) .none kV doc pm an cdv ct) ⟨us,[]⟩=pure (ps.zip us)):Binds K fd ps []:=by
 obtain⟨oc,od,kV,doc,pm,an,cdv,ct,osl,rfl,lk,hcd⟩:=F.ex;exact .all (h kV doc pm an cdv ct)
theorem fun_mk {x qual:Str}{st:Stmt}{f:Addr}{oc:Value}{od an:Option Addr}{osl:Array (Option Value)}{kV doc pm cdv ct:Value}(l:K.lookup f=some ⟨oc,od,.func (W.fnOf x qual (hX st) (fT st) (dS st) .none kV doc pm an cdv ct),osl⟩)
  (c:W.codeIn K cdv qual=true)(k:W.keepIn K (.ref f)=true):Fun K x qual st f (W.fnOf x qual (hX st) (fT st) (dS st) .none kV doc pm an cdv ct):=⟨⟨oc,od,kV,doc,pm,an,cdv,ct,osl,rfl,l,c⟩,k⟩
end
theorem iI {A:Around}{k:Nat}(hr:Room k A):A.units+1 < cLine:=Nat.lt_of_le_of_lt (Nat.add_le_add_left (by decide:1<=64) _) hr.units
section
variable {X:Cx}
theorem pv (i:Nat){x:Str}{pos:Pos}(hN:X.N[i]?=some x:=by rfl)(hv:Vis X.env.scope x:=by first | exact Or.inl rfl | exact Or.inr (Or.inl rfl) | exact Or.inr (Or.inr rfl))(hd:(x==("__debug__" : Str))=false:=by decide)
  (hcd:(x==("__classdict__" : Str))=false:=by decide):PE X (.Name x pos) (tVar i):=pe_var hN hv hd hcd
theorem call_lenD:CallR X (.builtin "len") (fun xs H Q=>∃ a kvs,xs=[V.ref a]/\H a=some (.dK kvs)/\Q (.int kvs.length) H):=by
 intro pins s σ H xs us Q I r h;obtain⟨a,kvs,rfl,ha,q⟩:=h;obtain⟨u,rfl,ru⟩:=vals1 r;cases ru;exact d_len I (.inl ha) fun t s' I'=>⟨.int kvs.length,H,I',⟨t,rfl⟩,q⟩
end
def Same (H H':Hp):Prop:=∀ b o,H b=some o->H' b=some o
theorem Same.refl (H:Hp):Same H H:=fun _ _ h=>h
theorem Same.trans {H H1 H2:Hp}(a:Same H H1)(b:Same H1 H2):Same H H2:=fun c o h=>b c o (a c o h)
theorem Same.free {H H':Hp}(e:Same H H'){l:Addr}(h:H' l=Option.none):H l=Option.none:=by
 cases q:H l with
 | none=>rfl
 | some o =>
  rw [e l o q] at h;cases h
theorem Same.seq {K:W.Frag}{H H':Hp}{a:Addr}{xs:List V}(e:Same H H')(h:SqL K H a xs):SqL K H' a xs:=by
 rcases h with (h | ⟨o,h⟩) | h
 ·exact .inl (.inl (e _ _ h))
 ·exact .inl (.inr ⟨o,e _ _ h⟩)
 ·exact .inr h
end L2
end
section
set_option maxHeartbeats 2000000
namespace L2
open PySem PySem.Spec PyProof.Rows
open PySem.W (WData Codec OpenSpec Well WellAll ReadsW ReadsAllW)
mutual
inductive Dw (K:W.Frag)(H:Hp):V->WData->Prop
 | non:Dw K H .non .none
 | bl (b:Bool):Dw K H (.bl b) (.bool b)
 | int (i:Int):Dw K H (.int i) (.int i)
 | str (x:Str):Dw K H (.str x) (.str x)
 | byt (b:Array UInt8):Dw K H (.byt b) (.bytes b.toList)
 | lst {a:Addr}{xs:List V}{ds:List WData}:SqL K H a xs->DwAll K H xs ds->Dw K H (.ref a) (.list ds)
 | tup {a:Addr}{xs:List V}{ds:List WData}:SqT K H a xs->DwAll K H xs ds->Dw K H (.ref a) (.tuple ds)
inductive DwAll (K:W.Frag)(H:Hp):List V->List WData->Prop
 | nil:DwAll K H [] []
 | cons {v:V}{vs:List V}{d:WData}{ds:List WData}:Dw K H v d->DwAll K H vs ds->DwAll K H (v::vs) (d::ds)
end
theorem dw_ints {K:W.Frag}{H:Hp}:∀ ns:List Int,DwAll K H (ns.map V.int) (ns.map WData.int)
 | []=>.nil
 | n::r=>.cons (.int n) (dw_ints r)
theorem ints_dw {K:W.Frag}{H:Hp}:∀ (ns:List Int)(xs:List V),DwAll K H xs (ns.map WData.int)->xs=ns.map V.int
 | [],xs,h=>by
  cases h;rfl
 | n::r,xs,h=>by
  cases h with
  | cons h1 h2 =>
   cases h1;rw [ints_dw r _ h2] <;> rfl
section
variable {P:Program}{w:World}{K:W.Frag}{H:Hp}{h:Heap}{R:W.WRecords}{cl:Str->Option Addr}
theorem sqL_at {a:Addr}{xs:List V}(hok:HOk P w H h)(KX:K.In h)(q:SqL K H a xs):∃ (its:List Value)(o:Obj)(n:Nat),Vals xs its/\h.get? a=some o/\o.cls=.type "list" /\ o.data=.seq its.toArray n:=by
 rcases q with q | ⟨o,its,n,e,hc,_,hd,_,hv⟩
 ·obtain⟨_,its,n,hv,e⟩:=(show ObjOk P w H h a (.lst xs) from q.ok hok)
  exact⟨its,_,n,hv,e,rfl,rfl⟩
 ·exact⟨its.toList,o,n,hv,KX _ _ e,hc,by simp [hd]⟩
theorem sqT_at {a:Addr}{xs:List V}(hok:HOk P w H h)(KX:K.In h)(q:SqT K H a xs):∃ (its:List Value)(o:Obj)(n:Nat),Vals xs its/\h.get? a=some o/\o.cls=.type "tuple" /\ o.data=.seq its.toArray n:=by
 rcases q with q | ⟨o,its,n,e,hc,hd,_,hv⟩
 ·obtain⟨_,its,hv,o,e,hc,⟨n,hd⟩,_⟩:=(show ObjOk P w H h a (.tup xs) from q.ok hok)
  exact⟨its,o,n,hv,e,hc,hd⟩
 ·exact⟨its.toList,o,n,hv,KX _ _ e,hc,by simp [hd]⟩
mutual
theorem Dw.reads (hok:HOk P w H h)(KX:K.In h):∀ (d:WData)(v:V)(u:Value),Dw K H v d->RelV v u->∃ as,ReadsW R cl h u d as
 | .none,_,_,x,r=>by
  cases x;cases r;exact⟨_,ReadsW.none⟩
 | .bool b,_,_,x,r=>by
  cases x;cases r;exact⟨_,ReadsW.bool b⟩
 | .int i,_,_,x,r=>by
  cases x;obtain⟨t,rfl⟩:=r;exact⟨_,ReadsW.int i t⟩
 | .str s,_,_,x,r=>by
  cases x;obtain⟨t,rfl⟩:=r;exact⟨_,ReadsW.str s t⟩
 | .bytes b,_,_,x,r=>by
  cases x;obtain⟨t,rfl⟩:=r;exact⟨_,ReadsW.bytes _ t⟩
 | .list ds,_,_,x,r=>by
  cases x with
  | lst hs ha =>
   cases r;obtain⟨its,o,n,rv,ho,hc,hd⟩:=sqL_at hok KX hs;obtain⟨as,hr⟩:=Dw.readsAll hok KX ds _ its ha rv;exact⟨_,ReadsW.list ho hc hd hr⟩
 | .tuple ds,_,_,x,r=>by
  cases x with
  | tup hs ha =>
   cases r;obtain⟨its,o,n,rv,ho,hc,hd⟩:=sqT_at hok KX hs;obtain⟨as,hr⟩:=Dw.readsAll hok KX ds _ its ha rv;exact⟨_,ReadsW.tuple ho hc hd hr⟩
 | .float _,_,_,x,_=>by cases x
 | .dict _,_,_,x,_=>by cases x
 | .bytearray _,_,_,x,_=>by cases x
 | .set _,_,_,x,_=>by cases x
 | .frozenset _,_,_,x,_=>by cases x
 | .obj _ _,_,_,x,_=>by cases x
theorem Dw.readsAll (hok:HOk P w H h)(KX:K.In h):∀ (ds:List WData)(vs:List V)(us:List Value),DwAll K H vs ds->Vals vs us->∃ as,ReadsAllW R cl h us ds as
 | [],_,_,x,r=>by
  cases x;cases r;exact⟨_,ReadsAllW.nil⟩
 | d::ds,_,_,x,r=>by
  cases x with
  | cons h1 h2 =>
   cases r with
   | cons r1 r2 =>
    obtain⟨as,q1⟩:=Dw.reads hok KX d _ _ h1 r1;obtain⟨bs,q2⟩:=Dw.readsAll hok KX ds _ _ h2 r2;exact⟨_,ReadsAllW.cons q1 q2⟩
end
end
mutual
def plW:WData->Bool
 | .none=>true
 | .bool _=>true
 | .int _=>true
 | .str _=>true
 | .bytes _=>true
 | .list xs=>plWs xs
 | .tuple xs=>plWs xs
 | _=>false
def plWs:List WData->Bool
 | []=>true
 | x::r=>plW x&&plWs r
end
theorem plWs_map {α:Type}{f:α->WData}(h:∀ a,plW (f a)=true):∀ l:List α,plWs (l.map f)=true
 | []=>rfl
 | x::r=>by
  show(plW (f x)&&plWs (r.map f))=true
  rw [h x,plWs_map h r] <;> rfl
theorem pl_enc:∀ (c:Codec)(a:c.denote),plW (c.enc a)=true
 | .unit,_=>rfl
 | .bool,_=>rfl
 | .int _ _,_=>rfl
 | .nat _ _,_=>rfl
 | .u8,_=>rfl
 | .bytes _ _,_=>rfl
 | .text _ _ _ _,_=>rfl
 | .list _ _ c,a=>plWs_map (fun x=>pl_enc c x) a
 | .pair c d,a=>by
  show(plW (c.enc a.1)&&(plW (d.enc a.2)&&true))=true
  rw [pl_enc c a.1,pl_enc d a.2] <;> rfl
 | .triple c d e,a=>by
  show(plW (c.enc a.1)&&(plW (d.enc a.2.1)&&(plW (e.enc a.2.2)&&true)))=true
  rw [pl_enc c a.1,pl_enc d a.2.1,pl_enc e a.2.2] <;> rfl
 | .option c,none=>rfl
 | .option c,some x=>pl_enc c x
theorem pl_encAll:∀ (cs:List Codec)(a:Codec.denoteAll cs),plWs (Codec.encAll cs a)=true
 | [],_=>rfl
 | c::cs,a=>by
  show(plW (c.enc a.1)&&plWs (Codec.encAll cs a.2))=true
  rw [pl_enc c a.1,pl_encAll cs a.2] <;> rfl
theorem weight_mem:∀ {xs:List WData}{d:WData},d∈xs->d.weight<=WData.weightAll xs
 | [],d,h=>absurd h (by simp)
 | x::r,d,h=>by
  show d.weight<=x.weight+1+WData.weightAll r
  rcases List.mem_cons.mp h with e | m
  ·rw [e];omega
  ·have z:=weight_mem m;omega
def toV:Value->V
 | .none=>.non
 | .bool b=>.bl b
 | .int i _=>.int i
 | .str x _=>.str x
 | .bytes b _=>.byt b
 | .ref a=>.ref a
 | _=>.non
def OkU (A:List Addr):Value->Prop
 | .none=>True
 | .bool _=>True
 | .int _ _=>True
 | .str _ _=>True
 | .bytes _ _=>True
 | .ref a=>a∈A
 | _=>False
theorem OkU.mono {A B:List Addr}(h:∀ a∈A,a∈B):∀ {u:Value},OkU A u->OkU B u:=fun {u} x=>by
 cases u with
 | ref a=>exact h a x
 | none=>trivial
 | bool b=>trivial
 | int i t=>trivial
 | str s t=>trivial
 | bytes b t=>trivial
 | _=>exact False.elim x
theorem relV_toV {A:List Addr}{u:Value}(x:OkU A u):RelV (toV u) u:=by
 cases u with
 | ref a=>rfl
 | none=>rfl
 | bool b=>rfl
 | int i t=>exact⟨t,rfl⟩
 | str s t=>exact⟨t,rfl⟩
 | bytes b t=>exact⟨t,rfl⟩
 | _=>exact False.elim x
theorem vals_toV {A:List Addr}:∀ {vs:List Value},(∀ u∈vs,OkU A u)->Vals (vs.map toV) vs
 | [],_=>.nil
 | u::r,h=>.cons (relV_toV (h u (List.mem_cons_self ..))) (vals_toV fun x hx=>h x (List.mem_cons_of_mem _ hx))
def ArgOb (h:Heap)(A:List Addr)(a:Addr):Prop:=∃ vs:List Value,vs.length<=sizeLine/\(∀ u∈vs,OkU A u) /\
 (h.get? a=some {cls:=.type "list",data:=.seq vs.toArray}\/h.get? a=some {cls:=.type "tuple",data:=.seq vs.toArray})
theorem ArgOb.mono {h:Heap}{A B:List Addr}{a:Addr}(k:∀ a∈A,a∈B)(x:ArgOb h A a):ArgOb h B a:=by
 obtain⟨vs,h1,h2,h3⟩:=x;exact⟨vs,h1,fun u hu=>(h2 u hu).mono k,h3⟩
theorem wellAll_len {P:Params}{h:Heap}:∀ {vs:List Value}{ds:List WData},WellAll P h vs ds->vs.length=ds.length
 | _,_,.nil=>rfl
 | _,_,.cons _ b=>by
  show _+1=_+1
  rw [wellAll_len b]
theorem well_list {P:Params}{h:Heap}{v:Value}{ds:List WData}(x:Well P h v (.list ds)):∃ (a:Addr)(vs:List Value),v=.ref a/\h.get? a=some {cls:=.type "list",data:=.seq vs.toArray}/\WellAll P h vs ds:=by
 cases x with
 | list ho hall=>exact⟨_,_,rfl,ho,hall⟩
theorem well_tuple {P:Params}{h:Heap}{v:Value}{ds:List WData}(x:Well P h v (.tuple ds)):∃ (a:Addr)(vs:List Value),v=.ref a/\h.get? a=some {cls:=.type "tuple",data:=.seq vs.toArray}/\WellAll P h vs ds:=by
 cases x with
 | tuple ho hall=>exact⟨_,_,rfl,ho,hall⟩
theorem well_cons {P:Params}{h:Heap}{us:List Value}{d:WData}{ds:List WData}(x:WellAll P h us (d::ds)):∃ (v:Value)(vs:List Value),us=v::vs/\Well P h v d/\WellAll P h vs ds:=by
 cases x with
 | cons a b=>exact⟨_,_,rfl,a,b⟩
theorem line_of {n:Nat}(h:n<=1048576):n<=sizeLine:=Nat.le_trans h (by decide)
section
variable {P:Params}{h:Heap}
mutual
theorem area_one:∀ (d:WData)(v:Value),Well P h v d->plW d=true->d.weight<=1048576->∃ A:List Addr,OkU A v/\∀ a∈A,ArgOb h A a
 | .none,_,x,_,_=>by
  cases x;exact⟨[],trivial,fun a m=>absurd m (by simp)⟩
 | .bool b,_,x,_,_=>by
  cases x;exact⟨[],trivial,fun a m=>absurd m (by simp)⟩
 | .int i,_,x,_,_=>by
  cases x;exact⟨[],trivial,fun a m=>absurd m (by simp)⟩
 | .str s,_,x,_,_=>by
  cases x;exact⟨[],trivial,fun a m=>absurd m (by simp)⟩
 | .bytes b,_,x,_,_=>by
  cases x;exact⟨[],trivial,fun a m=>absurd m (by simp)⟩
 | .list ds,_,x,p,z=>by
  obtain⟨a,vs,rfl,ho,hall⟩:=well_list x;have z2:WData.weightAll ds<=1048576:=z
  obtain⟨A,h1,h2⟩:=area_all ds _ hall p fun d hd=>Nat.le_trans (weight_mem hd) z2
  have k:∀ b∈A,b∈a::A:=fun b hb=>List.mem_cons_of_mem _ hb
  refine⟨a::A,List.mem_cons_self ..,fun b hb=>?_⟩
  rcases List.mem_cons.mp hb with e | m
  ·rw [e];exact⟨vs,line_of (by rw [wellAll_len hall];exact Nat.le_trans (W.length_le_weightAllW ds) z2),fun u hu=>(h1 u hu).mono k,.inl ho⟩
  ·exact(h2 b m).mono k
 | .tuple ds,_,x,p,z=>by
  obtain⟨a,vs,rfl,ho,hall⟩:=well_tuple x;have z2:WData.weightAll ds<=1048576:=z
  obtain⟨A,h1,h2⟩:=area_all ds _ hall p fun d hd=>Nat.le_trans (weight_mem hd) z2
  have k:∀ b∈A,b∈a::A:=fun b hb=>List.mem_cons_of_mem _ hb
  refine⟨a::A,List.mem_cons_self ..,fun b hb=>?_⟩
  rcases List.mem_cons.mp hb with e | m
  ·rw [e];exact⟨vs,line_of (by rw [wellAll_len hall];exact Nat.le_trans (W.length_le_weightAllW ds) z2),fun u hu=>(h1 u hu).mono k,.inr ho⟩
  ·exact(h2 b m).mono k
 | .float _,_,_,p,_=>Bool.noConfusion (show false=true from p)
 | .dict _,_,_,p,_=>Bool.noConfusion (show false=true from p)
 | .bytearray _,_,_,p,_=>Bool.noConfusion (show false=true from p)
 | .set _,_,_,p,_=>Bool.noConfusion (show false=true from p)
 | .frozenset _,_,_,p,_=>Bool.noConfusion (show false=true from p)
 | .obj _ _,_,_,p,_=>Bool.noConfusion (show false=true from p)
theorem area_all:∀ (ds:List WData)(vs:List Value),WellAll P h vs ds->plWs ds=true->(∀ d∈ds,d.weight<=1048576)->∃ A:List Addr,(∀ u∈vs,OkU A u)/\∀ a∈A,ArgOb h A a
 | [],_,x,_,_=>by
  cases x;exact⟨[],fun u m=>absurd m (by simp),fun a m=>absurd m (by simp)⟩
 | d::ds,_,x,p,z=>by
  obtain⟨v,vs,rfl,x1,x2⟩:=well_cons x;have q:plW d=true/\plWs ds=true:=Bool.and_eq_true_iff.mp p
  obtain⟨A,a1,a2⟩:=area_one d v x1 q.1 (z d (List.mem_cons_self ..));obtain⟨B,b1,b2⟩:=area_all ds vs x2 q.2 fun e he=>z e (List.mem_cons_of_mem _ he)
  have kA:∀ b∈A,b∈A++B:=fun b hb=>List.mem_append.mpr (.inl hb)
  have kB:∀ b∈B,b∈A++B:=fun b hb=>List.mem_append.mpr (.inr hb)
  refine⟨A++B,fun u hu=>?_,fun b hb=>?_⟩
  ·rcases List.mem_cons.mp hu with e | m
   ·rw [e];exact a1.mono kA
   ·exact(b1 u m).mono kB
  ·rcases List.mem_append.mp hb with m | m
   ·exact(a2 b m).mono kA
   ·exact(b2 b m).mono kB
end
end
def hoOf (o:Obj):Option HO:=match o.data with
 | .seq vs _=>if (o.cls==Value.type "list")=true then some (.frz o (.lst (vs.toList.map toV))) else some (.frz o (.tup (vs.toList.map toV)))
 | _=>none
def argH (K:W.Frag)(h:Heap)(A:List Addr):Hp:=fun b=>if b∈A then(if (K.lookup b).isNone=true then(h.get? b).bind hoOf else none) else none
def OnlyF (H:Hp):Prop:=∀ b,H b=none\/∃ o u,H b=some (.frz o u)
theorem hoOf_lst (vs:List Value):hoOf {cls:=.type "list",data:=.seq vs.toArray}=some (.frz {cls:=.type "list",data:=.seq vs.toArray} (.lst (vs.map toV))):=by
 show(if (Value.type "list" == Value.type "list")=true then some (HO.frz {cls:=.type "list",data:=.seq vs.toArray} (.lst (vs.toArray.toList.map toV))) else some (HO.frz {cls:=.type "list",data:=.seq vs.toArray} (.tup (vs.toArray.toList.map toV))))=_
 rw [if_pos (beq_self_eq_true _)]
theorem hoOf_tup (vs:List Value):hoOf {cls:=.type "tuple",data:=.seq vs.toArray}=some (.frz {cls:=.type "tuple",data:=.seq vs.toArray} (.tup (vs.map toV))):=by
 show(if (Value.type "tuple" == Value.type "list")=true then some (HO.frz {cls:=.type "tuple",data:=.seq vs.toArray} (.lst (vs.toArray.toList.map toV))) else some (HO.frz {cls:=.type "tuple",data:=.seq vs.toArray} (.tup (vs.toArray.toList.map toV))))=_
 rw [if_neg (by decide)]
section
variable {P:Program}{w:World}{K:W.Frag}{h:Heap}{A:List Addr}
theorem argH_at {b:Addr}{o:Obj}(hb:b∈A)(hk:K.lookup b=none)(e:h.get? b=some o):argH K h A b=hoOf o:=by
 unfold argH;rw [if_pos hb,hk,if_pos (show(none:Option Obj).isNone=true from rfl),e] <;> rfl
theorem of_argH {b:Addr}{u:HO}(q:argH K h A b=some u):b∈A/\K.lookup b=none:=by
 unfold argH at q;by_cases hb:b∈A
 ·rw [if_pos hb] at q;cases hk:K.lookup b with
  | none=>exact⟨hb,rfl⟩
  | some o =>
   rw [hk,if_neg (by simp)] at q;cases q
 ·rw [if_neg hb] at q;cases q
theorem argH_is (ar : ∀ a ∈ A, ArgOb h A a) {b : Addr} {u : HO} (q : argH K h A b = some u) : K.lookup b = none ∧ ∃ vs : List Value, vs.length ≤ sizeLine ∧ (∀ u ∈ vs, OkU A u) ∧
    ((h.get? b = some { cls := .type "list", data := .seq vs.toArray } ∧ u = .frz { cls := .type "list", data := .seq vs.toArray } (.lst (vs.map toV))) ∨
     (h.get? b = some { cls := .type "tuple", data := .seq vs.toArray } ∧ u = .frz { cls := .type "tuple", data := .seq vs.toArray } (.tup (vs.map toV)))) := by
  obtain ⟨hb, hk⟩ := of_argH q
  obtain ⟨vs, h1, h2, h3⟩ := ar b hb
  refine ⟨hk, vs, h1, h2, ?_⟩
  rcases h3 with e | e
  · rw [argH_at hb hk e, hoOf_lst] at q
    exact .inl ⟨e, (Option.some.inj q).symm⟩
  · rw [argH_at hb hk e, hoOf_tup] at q
    exact .inr ⟨e, (Option.some.inj q).symm⟩
theorem argH_only (ar:∀ a∈A,ArgOb h A a):OnlyF (argH K h A):=fun b=>by
 cases q:argH K h A b with
 | none=>exact .inl rfl
 | some u =>
  obtain⟨_,vs,_,_,⟨_,e⟩ | ⟨_,e⟩⟩:=argH_is ar q
  ·exact .inr ⟨_,_,by rw [e]⟩
  ·exact .inr ⟨_,_,by rw [e]⟩
theorem argH_ok (ar:∀ a∈A,ArgOb h A a):HOk P w (argH K h A) h:=fun b u q=>by
 obtain⟨_,vs,h1,h2,⟨e,rfl⟩ | ⟨e,rfl⟩⟩:=argH_is ar q
 ·exact⟨e,by rw [List.length_map];exact h1,vs,_,vals_toV h2,e⟩
 ·exact⟨e,by rw [List.length_map];exact h1,vs,vals_toV h2,_,e,rfl,⟨_,rfl⟩,rfl⟩
theorem seq_inj {c c':Value}{vs us:List Value}(e:(some {cls:=c,data:=.seq vs.toArray}:Option Obj)=some {cls:=c',data:=.seq us.toArray}):c=c'/\vs=us:=by
 have e1:=Option.some.inj e;have e2:c=c':=congrArg Obj.cls e1
 have e3:Data.seq vs.toArray=Data.seq us.toArray:=congrArg Obj.data e1
 injection e3 with e4
 refine⟨e2,?_⟩
 have e5:=congrArg Array.toList e4;simpa using e5
theorem argL (KX:K.In h)(ar:∀ a∈A,ArgOb h A a){a:Addr}{vs:List Value}(ha:a∈A)(e:h.get? a=some {cls:=.type "list",data:=.seq vs.toArray}):(∀ u∈vs,OkU A u)/\SqL K (argH K h A) a (vs.map toV):=by
 obtain⟨us,h1,h2,h3⟩:=ar a ha
 have hu:us=vs:=by
  rcases h3 with q | q
  ·rw [e] at q;exact(seq_inj q).2.symm
  ·rw [e] at q;exact absurd (Value.type.inj (seq_inj q).1) (by decide)
 subst hu;refine⟨h2,?_⟩
 cases hk:K.lookup a with
 | none=>exact .inl (.inr ⟨_,by rw [argH_at ha hk e,hoOf_lst]⟩)
 | some o =>
  have e2:=KX a o hk;rw [e] at e2;obtain rfl:=Option.some.inj e2
  exact .inr ⟨_,us.toArray,_,hk,rfl,rfl,rfl,by rw [List.size_toArray];exact h1,by simpa using vals_toV h2⟩
theorem argT (KX:K.In h)(ar:∀ a∈A,ArgOb h A a){a:Addr}{vs:List Value}(ha:a∈A)(e:h.get? a=some {cls:=.type "tuple",data:=.seq vs.toArray}):(∀ u∈vs,OkU A u)/\SqT K (argH K h A) a (vs.map toV):=by
 obtain⟨us,h1,h2,h3⟩:=ar a ha
 have hu:us=vs:=by
  rcases h3 with q | q
  ·rw [e] at q;exact absurd (Value.type.inj (seq_inj q).1) (by decide)
  ·rw [e] at q;exact(seq_inj q).2.symm
 subst hu;refine⟨h2,?_⟩
 cases hk:K.lookup a with
 | none=>exact .inl (.inr ⟨_,by rw [argH_at ha hk e,hoOf_tup]⟩)
 | some o =>
  have e2:=KX a o hk;rw [e] at e2;obtain rfl:=Option.some.inj e2
  exact .inr ⟨_,us.toArray,_,hk,rfl,rfl,by rw [List.size_toArray];exact h1,by simpa using vals_toV h2⟩
mutual
theorem dw_one {Pm:Params}(KX:K.In h)(ar:∀ a∈A,ArgOb h A a):∀ (d:WData)(v:Value),Well Pm h v d->plW d=true->OkU A v->Dw K (argH K h A) (toV v) d
 | .none,_,x,_,_=>by
  cases x;exact .non
 | .bool b,_,x,_,_=>by
  cases x;exact .bl b
 | .int i,_,x,_,_=>by
  cases x;exact .int i
 | .str s,_,x,_,_=>by
  cases x;exact .str s
 | .bytes b,_,x,_,_=>by
  cases x;have z:=Dw.byt (K:=K) (H:=argH K h A) b.toArray
  exact z
 | .list ds,_,x,p,hu=>by
  obtain⟨a,vs,rfl,ho,hall⟩:=well_list x;obtain⟨h2,hs⟩:=argL KX ar hu ho;exact .lst hs (dw_all KX ar ds _ hall p h2)
 | .tuple ds,_,x,p,hu=>by
  obtain⟨a,vs,rfl,ho,hall⟩:=well_tuple x;obtain⟨h2,hs⟩:=argT KX ar hu ho;exact .tup hs (dw_all KX ar ds _ hall p h2)
 | .float _,_,_,p,_=>Bool.noConfusion (show false=true from p)
 | .dict _,_,_,p,_=>Bool.noConfusion (show false=true from p)
 | .bytearray _,_,_,p,_=>Bool.noConfusion (show false=true from p)
 | .set _,_,_,p,_=>Bool.noConfusion (show false=true from p)
 | .frozenset _,_,_,p,_=>Bool.noConfusion (show false=true from p)
 | .obj _ _,_,_,p,_=>Bool.noConfusion (show false=true from p)
theorem dw_all {Pm:Params}(KX:K.In h)(ar:∀ a∈A,ArgOb h A a):∀ (ds:List WData)(vs:List Value),WellAll Pm h vs ds->plWs ds=true->(∀ u∈vs,OkU A u)->DwAll K (argH K h A) (vs.map toV) ds
 | [],_,x,_,_=>by
  cases x;exact .nil
 | d::ds,_,x,p,hu=>by
  obtain⟨v,vs,rfl,x1,x2⟩:=well_cons x;have q:plW d=true/\plWs ds=true:=Bool.and_eq_true_iff.mp p
  exact .cons (dw_one KX ar d v x1 q.1 (hu _ (List.mem_cons_self ..))) (dw_all KX ar ds vs x2 q.2 fun u m=>hu u (List.mem_cons_of_mem _ m))
end
end
theorem spec_call {P:Program}{w:World}{K:W.Frag}{mg mb:Str->Option Value}{CX:CXT}{k:Nat}{fa:Addr}{fd:FuncData}{ps:List Str}{sp:Sp}{s₁:Shared}{vals:List Value}{ds:List WData}{R:W.WRecords}{cl:Str->Option Addr}{d0:WData}
  (KX:K.In s₁.heap)(hns:s₁.heap.Ns mainGlobals mg)(hb:s₁.heap.Ns builtinsNs mb)(hbb:∀ x:Str,x ≠ "__name__" -> mb x=bootBuiltins x)(hlim:s₁.heap.NoLimit)(hg:s₁.gens=#[])
  (hwl:WellAll w.params s₁.heap vals ds)(hpl:plWs ds=true)(hwt:∀ d∈ds,d.weight<=1048576)(hr:Room k callerA)
  (F:∀ base:Heap,K.In base->base.Ns mainGlobals mg->FnOk P w K mg base CX k fa fd ps sp)(hbind:∀ (s:Shared)(us:List Value),us.length=ps.length->BindsTo s fd ⟨us,[]⟩ (ps.zip us))(hlen:ds.length=ps.length)
  (hsp:∀ (H:Hp)(xs:List V),OnlyF H->DwAll K H xs ds->sp xs H (fun v H'=>Dw K H' v d0) fun _ _ _=>False)
  (hCX:∀ H e s',CX [] H s₁ (fun _ _ _=>False) e s'->False) :
  codeAny (model P w) callerA (.call (.ref fa) ⟨vals,[]⟩) (fun r s'=>∃ u as,r=.ok (.ret u)/\ReadsW R cl s'.heap u d0 as/\OldK s₁.heap s'.heap/\s'.os=s₁.os/\AllBare s'.gens) s₁:=by
 obtain⟨A,ho,ar⟩:=area_all ds vals hwl hpl hwt;have hO:OnlyF (argH K s₁.heap A):=argH_only ar
 have hok:HOk P w (argH K s₁.heap A) s₁.heap:=argH_ok ar
 have hS:=dw_all KX ar ds vals hwl hpl ho;have hV:=vals_toV ho;have hK:∀ b u,argH K s₁.heap A b=some u->K.lookup b=none:=fun b u q=>(argH_is ar q).1
 have noA:∀ {b:Addr}{o:Obj}{es:Array DictEntry}{ep:Nat},s₁.heap.get? b=some o->o.data=.dict es ep->argH K s₁.heap A b=none:=fun {b o es ep} e d=>by
  cases q:argH K s₁.heap A b with
  | none=>rfl
  | some u =>
   obtain⟨_,vs,_,_,⟨e2,_⟩ | ⟨e2,_⟩⟩:=argH_is ar q
   ·rw [e2] at e;cases e;have d':Data.seq vs.toArray _=Data.dict es ep:=d
    cases d'
   ·rw [e2] at e;cases e;have d':Data.seq vs.toArray _=Data.dict es ep:=d
    cases d'
 generalize argH K s₁.heap A=H at hO hok hS hK noA;have base_of:∀ {b:Addr}{o:Obj},s₁.heap.get? b=some o->H b=none->(hidT s₁.heap H).get? b=some o:=fun e n=>hidT_get e n
 have nsK:∀ {b:Addr}{m:Str->Option Value},s₁.heap.Ns b m->(hidT s₁.heap H).Ns b m:=fun {b m} ⟨o,es,ep,e,d,r⟩=>⟨o,es,ep,base_of e (noA e d),d,r⟩
 have nK:∀ b o,K.lookup b=some o->H b=none:=fun b o e=>by
  cases q:H b with
  | none=>rfl
  | some u =>
   rw [hK b u q] at e;cases e
 have hKb:K.In (hidT s₁.heap H):=fun b o e=>base_of (KX b o e) (nK b o e)
 have hM:Mod K mg (hidT s₁.heap H):=⟨hKb,nsK hns,⟨mb,nsK hb,hbb⟩,let ⟨mc,h1,h2⟩:=hlim;⟨mc,nsK h1,h2⟩⟩
 have e0:Env0 P w K mg (hidT s₁.heap H) callerA [] s₁ H:=⟨rfl,hM,fun b o e=>of_hidT e,Nat.le_of_eq (hidT_size _ _),trivial,fun b hb=>absurd (show b∈([]:List Addr) from hb) (by simp),hok,.of_eq hg⟩
 have hl:vals.length=ps.length:=by rw [wellAll_len hwl];exact hlen
 refine codeAny_mono ((F _ hKb (nsK hns)).run callerA [] s₁ H ⟨vals,[]⟩ vals (vals.map toV) _ _ hr e0 (hbind s₁ vals hl) hV (hsp H _ hO hS)) fun r s' x=>?_
 cases r with
 | error e=>exact(hCX H e s' x).elim
 | ok fl =>
  cases fl with
  | next=>exact False.elim x
  | brk=>exact False.elim x
  | cont=>exact False.elim x
  | ret u =>
   obtain⟨v,H',os,bare,un,hok',r',q⟩:=x
   have kept:∀ b o,s₁.heap.get? b=some o->s'.heap.get? b=some o:=fun b o e=>by
    cases q2:H b with
    | none=>exact un.keep b o e q2 (by intro z;exact absurd (show b∈([]:List Addr) from z) (by simp)) (by simp)
    | some u2 =>
     rcases hO b with z | ⟨ob,u3,z⟩
     ·rw [q2] at z;cases z
     ·have z2:=un.frzs b ob _ z;obtain⟨e1,_⟩:=hok b _ z;obtain⟨e2,_⟩:=hok' b _ z2;rw [e] at e1;cases e1;exact e2
   have KX':K.In s'.heap:=fun b o e=>kept b o (KX b o e)
   obtain⟨as,hrd⟩:=Dw.reads (R:=R) (cl:=cl) hok' KX' d0 v u q r'
   exact⟨u,as,rfl,hrd,OldK.of_keep kept,os,bare⟩
theorem layable_weight {ds:List WData}(h:WData.layableAll ds=true):∀ d∈ds,d.weight<=1048576:=fun d hd =>
 (W.layableW_iff.mp (List.all_eq_true.mp h d hd)).2.2
theorem encAll_len:∀ (cs:List Codec)(a:Codec.denoteAll cs),(Codec.encAll cs a).length=cs.length
 | [],_=>rfl
 | c::cs,a=>by
  show(Codec.encAll cs a.2).length+1=cs.length+1
  rw [encAll_len cs a.2]
theorem walk_spec {r:OpenSpec}{k:Nat}{q:Program}{loose:List Str}{XP:(Str->Option Value)->Heap->Prop}{YP:World->Heap->Prop}{d:DefRec}{K:Params->W.Frag}{CX:World->CXT}{ps:List Str}{sp:World->Sp}
  (hwell:r.wellSaid=true)(hdf:d.params.defaults=[])(hlen:r.args.length=ps.length)(hr:Room k callerA)
  (hY:∀ (w:World)(h:Heap),YP w h->(K w.params).In h)
  (F:∀ (w:World)(mg:Str->Option Value)(fa:Addr)(h:Heap),YP w h->(K w.params).In h->h.Ns mainGlobals mg->mg d.name=some (.ref fa) ->
   ∃ fd:FuncData,(∀ (s:Shared)(us:List Value),us.length=ps.length->BindsTo s fd ⟨us,[]⟩ (ps.zip us)) /\
    ∀ base:Heap,(K w.params).In base->base.Ns mainGlobals mg->FnOk r.prog w (K w.params) mg base (CX w) k fa fd ps (sp w))
  (hsp:∀ (w:World)(H:Hp)(xs:List V)(a:Codec.denoteAll r.args),OnlyF H->Codec.withinAll r.args a=true->Codec.app r.args r.asked a=true->DwAll (K w.params) H xs (Codec.encAll r.args a) ->
   sp w xs H (fun v H'=>Dw (K w.params) H' v (r.ret.enc (Codec.app r.args r.f a))) fun _ _ _=>False)
  (hCX:∀ (w:World)(H:Hp)(s:Shared)(e:Value)(s':Shared),CX w [] H s (fun _ _ _=>False) e s'->False) :
  W.WalkOS q loose XP YP r d [] (fun f vs=>PySem.call f vs):=by
 intro w s_0 s₁ mg mb G Y fa o pm cd doc dV kV ho hd hcd hD hmg hg args vals as hpre hlay hrd hwl hlo;obtain⟨a,e1,e2⟩:=W.os_pre_some hpre;obtain⟨e3,hwi⟩:=Codec.encAll_of_decAll r.args args a e1;subst e3;have KX:=hY w _ Y;obtain⟨fd,hb,hF⟩:=F w mg fa _ Y KX G.T.g hmg
 refine W.enter_call (codeAny_mono (spec_call (R:=[]) (cl:=classAt s_0.heap) (d0:=r.ret.enc (Codec.app r.args r.f a)) KX G.T.g G.T.b G.T.builtins G.T.nolimit hg hwl (pl_encAll _ _) (layable_weight hlay) hr hF hb (by rw [encAll_len];exact hlen)
  (fun H xs hO hS=>hsp w H xs a hO hwi e2 hS) fun H e s'=>hCX w H s₁ e s') fun r' s' hq=>?_)
 obtain⟨u,as',rfl,h1,h2,h3,h4⟩:=hq;exact⟨.inl ⟨u,_,as',rfl,fun _=>rfl,h1,(OpenSpec.post_iff hwell hwi _ _).mpr rfl,fun z=>Bool.noConfusion (show false=true from z)⟩,h2,h3,h4⟩
theorem walk_specK {r:OpenSpec}{k:Nat}{q:Program}{loose:List Str}{XP:(Str->Option Value)->Heap->Prop}{YP:World->Heap->Prop}{d:DefRec}{K:Params->W.Frag}{CX:CXT}{ps:List Str}{sp:W.Frag->Sp}
  (hwell:r.wellSaid=true)(hdf:d.params.defaults=[])(hlen:r.args.length=ps.length)(hr:Room k callerA)
  (hY:∀ (w:World)(h:Heap),YP w h->(K w.params).In h)
  (F:∀ (w:World)(mg:Str->Option Value)(fa:Addr)(h:Heap),YP w h->(K w.params).In h->h.Ns mainGlobals mg->mg d.name=some (.ref fa) ->
   ∃ fd:FuncData,(∀ (s:Shared)(us:List Value),us.length=ps.length->BindsTo s fd ⟨us,[]⟩ (ps.zip us)) /\
    ∀ base:Heap,(K w.params).In base->base.Ns mainGlobals mg->FnOk r.prog w (K w.params) mg base CX k fa fd ps (sp (K w.params)))
  (hsp:∀ (K:W.Frag)(H:Hp)(xs:List V)(a:Codec.denoteAll r.args),OnlyF H->Codec.withinAll r.args a=true->Codec.app r.args r.asked a=true->DwAll K H xs (Codec.encAll r.args a) ->
   sp K xs H (fun v H'=>Dw K H' v (r.ret.enc (Codec.app r.args r.f a))) fun _ _ _=>False)
  (hCX:∀ (H:Hp)(s:Shared)(e:Value)(s':Shared),CX [] H s (fun _ _ _=>False) e s'->False) :
  W.WalkOS q loose XP YP r d [] (fun f vs=>PySem.call f vs) :=
 walk_spec (K:=K) (CX:=fun _=>CX) (sp:=fun w=>sp (K w.params)) hwell hdf hlen hr hY F (fun w H xs a h1 h2 h3 h4=>hsp (K w.params) H xs a h1 h2 h3 h4) fun _ H s e s'=>hCX H s e s'
end L2
end
section
namespace OlLen
open PySem
section
variable {prog:Program}{w:World}{A:Around}{E:Value->Shared->Prop}{s:Shared}
theorem len_raw {d:Addr}{o:Obj}{es:Array DictEntry}{ep:Nat}{Q:Value->Shared->Prop}(hd:(d==sysModules)=false)(ho:s.heap.get? d=some o)(hex:o.ExactDict)(hdat:o.data=.dict es ep)(hfit:(es.size:Int) < 2 ^ 63)
  (h:∀ t s',s'={s with toks:=s.toks+1+1}->Q (.int es.size t) s'):wpAny (model prog w) A (call (.builtin "len") [.ref d]) Q E s:=by
 have hT:s.TypeIs (.ref d) "dict" := ⟨o,ho,hex.1⟩
 refine Calls.call_function_entry kind_len plain_len entry_len (args_len1 _) ?_
 unfold Builtin.«len»;refine wpAny_bind (m:=oneArg "len" _) (wpAny_pure ?_)
 refine wpAny_bind (m:=callSpecial? (Value.ref d) (Str.ofString "__len__")) (wpAny_callSpecial?_slot (name:=Str.ofString "__len__") hT F.slot_dict_len (wpAny_call_entry F.slot_dict_len hT F.entry_dict_len ?_ (F.args_dict_len_1 _)))
 show wpAny _ A.in1.in1 (dictSize d >>= _) _ _ s
 unfold dictSize;refine wpAny_bind (wpAny_bind (wpAny_dictEntries ho hdat (wpAny_pure ?_)))
 show wpAny _ A.in1.in1 (Builtin.Dict.pendingCount d >>= _) _ _ s
 refine wpAny_bind (wpAny_pendingCount_other hd (wpAny_ret_mkInt ?_))
 show wpAny _ _ _ _ _ {s with toks:=s.toks+1}
 refine wpAny_bind (wpAny_holding (wpAny_pure (wpAny_bind (wpAny_letGo ?_))))
 show wpAny _ _ (if ((es.size:Nat):Int) < 0 then _ else _) _ _ _
 rw [if_neg (by omega)];show wpAny _ _ (if ((es.size:Nat):Int) ≥ 2 ^ 63 then _ else _) _ _ _
 rw [if_neg (by omega)];exact wpAny_bind (wpAny_mkInt (wpAny_pure ⟨_,rfl,h _ _ rfl⟩))
end
end OlLen
end
section
namespace OlNest
open PySem
section
variable {prog:Program}{w:World}{K:Type} [DecidableEq K] (knd:KeyKind prog w K)
def Rows (h:Heap):List (List K)->List Value->Prop:=Paired fun ks v=>∃ b,v=Value.ref b/\IsTupleKey knd h ks b
def IsNest (h:Heap)(kss:List (List K))(a:Addr):Prop:=∃ o its n,h.get? a=some o/\o.cls=Value.type "tuple" /\ o.data=Data.seq its n/\Rows knd h kss its.toList
variable {knd}
theorem Rows.inj {h:Heap}:∀ {x y:List (List K)}{vs:List Value},Rows knd h x vs->Rows knd h y vs->x=y
 | _,_,_,.nil,q=>by cases q;rfl
 | _,_,_,.cons ⟨b,e,k⟩ t,q=>by
  cases q with
  | cons r t' =>
   obtain⟨b',e',k'⟩:=r;rw [e] at e';cases e';rw [k.inj k',Rows.inj t t']
theorem Rows.stay {h h':Heap}(st:∀ ks b,IsTupleKey knd h ks b->IsTupleKey knd h' ks b):∀ {x:List (List K)}{vs:List Value},Rows knd h x vs->Rows knd h' x vs
 | _,_,.nil=>.nil
 | _,_,.cons ⟨b,e,k⟩ t=>.cons ⟨b,e,st _ _ k⟩ (Rows.stay st t)
theorem IsNest.ty {s:Shared}{kss:List (List K)}{a:Addr}(x:IsNest knd s.heap kss a):s.TypeIs (.ref a) "tuple" := by
 obtain⟨o,_,_,h1,h2,_⟩:=x;exact⟨o,h1,h2⟩
theorem IsNest.inj {h:Heap}{a:Addr}{x y:List (List K)}(hx:IsNest knd h x a)(hy:IsNest knd h y a):x=y:=by
 obtain⟨o,i,n,h1,_,h3,h4⟩:=hx;obtain⟨o',i',n',g1,_,g3,g4⟩:=hy;rw [h1] at g1;cases g1;rw [h3] at g3;cases g3;exact h4.inj g4
theorem IsNest.keeps {h h':Heap}{kss:List (List K)}{a d:Addr}{o:Obj} {es ep}(x:IsNest knd h kss a)(ho:h.get? d=some o)(hd:o.data=Data.dict es ep)(hs:Heap.SameBut d h h'):IsNest knd h' kss a:=by
 obtain⟨o',i,n,g1,g2,g3,g4⟩:=x
 have hne:a≠d:=by
  intro z;subst z;rw [ho] at g1;cases g1;rw [hd] at g3;cases g3
 exact⟨o',i,n,(hs.2 a hne).trans g1,g2,g3,g4.stay fun _ _ q=>q.keeps ho hd hs⟩
def nestHash (knd:KeyKind prog w K)(kss:List (List K)):Int:=reduceHash (Builtin.Tuple.tupleHashOf (kss.map (tupleKeyHash knd)))
def nestDraws (kss:List (List K)):Nat:=(kss.map fun ks=>ks.length+1).sum+1
variable {A:Around}{E:Value->Shared->Prop}{s:Shared}
theorem sum_snoc:∀ (l:List Nat)(z:Nat),(l++[z]).sum=l.sum+z
 | [],z=>by simp
 | a::l,z=>by simp [sum_snoc l z,Nat.add_assoc]
theorem hash_nest {kss:List (List K)}{a:Addr}{Q:Int->Shared->Prop}(hu:A.units+1 < cLine)(hk:IsNest knd s.heap kss a)(h:Q (nestHash knd kss) {s with toks:=s.toks+nestDraws kss}):wpAny (model prog w) A (pyHash (.ref a)) Q E s:=by
 have hT:=hk.ty;obtain⟨o,its,n,ho,_,hd,hi⟩:=hk;unfold pyHash
 first | unfold pyHashByItsType | skip
 first | refine wpAny_bind (wpAny_cRoomFor_or (.inr (Nat.lt_of_succ_lt hu)) ?_) | skip
 refine wpAny_bind (wpAny_specialOf hT F.slot_tuple_hash.lookup ?_)
 have hnn:(some (Value.builtin "tuple.__hash__")==some Value.none)=false:=beq_builtin_none _
 simp only [hnn,Bool.false_eq_true,if_false];refine wpAny_bind (wpAny_specialOf hT F.slot_tuple_hash.lookup ?_)
 refine wpAny_bind (wpAny_callSpecialIfBoundUnlessNone?_slot hT F.slot_tuple_hash (wpAny_call_entry F.slot_tuple_hash hT F.entry_tuple_hash ?_ (F.args_tuple_hash_1 _)))
 show wpAny _ A.in1 (Builtin.Tuple.tupleItemsOf (Value.ref a) >>= _) _ _ s
 refine wpAny_bind (wpAny_tupleItemsOf ho hd (wpAny_bind ?_))
 rw [<-Array.forIn_toList];refine wpAny_forIn_list _ (fun rest (b:Array Int) s'=>∃ done left,kss=done++left/\Rows knd s.heap left rest/\b.toList=done.map (tupleKeyHash knd)/\s'={s with toks:=s.toks+(done.map fun ks=>ks.length+1).sum}) _ ?_ ?_ _ _ ⟨[],kss,rfl,hi,rfl,rfl⟩
 ·rintro x rest b s' ⟨done,left,rfl,hl,hb,rfl⟩
  cases hl with
  | @cons k _ ks' _ h1 hl' =>
   obtain⟨c,rfl,hc⟩:=h1;refine wpAny_bind (wpAny_pyHash_tuple (knd:=knd) (ks:=k) (show A.in1.units < cLine from hu) hc ?_)
   have e:s.toks+(done.map fun ks=>ks.length+1).sum+(k.length+1)=s.toks+((done++[k]).map fun ks=>ks.length+1).sum:=by
    rw [List.map_append,List.map_cons,List.map_nil,sum_snoc,Nat.add_assoc]
   have fin:∃ done' left',done++k::ks'=done'++left'/\Rows knd s.heap left' rest/\(b.push (tupleKeyHash knd k)).toList=done'.map (tupleKeyHash knd) /\
     ({s with toks:=s.toks+(done.map fun ks=>ks.length+1).sum+(k.length+1)}:Shared)={s with toks:=s.toks+(done'.map fun ks=>ks.length+1).sum}:=⟨done++[k],ks',by simp,hl',by simp [hb],by rw [e]⟩
   first
    | exact wpAny_pure fin
    | exact wpAny_bind (wpAny_pure (wpAny_pure fin))
 ·rintro b s' ⟨done,left,rfl,hl,hb,rfl⟩
  cases hl;rw [List.append_nil] at h;show wpAny _ _ (retInt (Builtin.Tuple.tupleHashOf b.toList)) _ _ _
  rw [hb];refine wpAny_ret_mkInt ?_
  unfold nestHash reduceHash nestDraws at h;show wpAny _ _ (if (decide (-(2:Int) ^ 63<=Builtin.Tuple.tupleHashOf (done.map (tupleKeyHash knd)))&&decide (Builtin.Tuple.tupleHashOf (done.map (tupleKeyHash knd)) < 2 ^ 63))=true then _ else _) Q E _
  by_cases hr:(decide (-(2:Int) ^ 63<=Builtin.Tuple.tupleHashOf (done.map (tupleKeyHash knd)))&&decide (Builtin.Tuple.tupleHashOf (done.map (tupleKeyHash knd)) < 2 ^ 63))=true
  ·rw [if_pos hr];rw [if_pos hr] at h;exact wpAny_pure (by simpa only [Nat.add_assoc] using h)
  ·rw [if_neg hr];rw [if_neg hr] at h;exact wpAny_bind (wpAny_rule (wpAny_pure (by simpa only [Nat.add_assoc] using h)))
theorem eq_tree {x y:List (List K)}{a b:Addr}{P:Fin->Shared->Prop}(hu:A.units < cLine)(hx:IsNest knd s.heap x a)(hy:IsNest knd s.heap y b)(h:P (.done (.ret (.bool (decide (x=y))))) s) :
  wpAny (model prog w) A (Builtin.«tuple.__eq__» ⟨[.ref a,.ref b],[]⟩) P E s:=by
 have hTb:=hy.ty;obtain⟨oa,xs,na,hoa,_,hda,hia⟩:=hx;obtain⟨ob,ys,nb,hob,_,hdb,hib⟩:=hy;show wpAny _ A (isInstance (.ref b) (.type "tuple") >>= _) _ _ s
 refine wpAny_bind (wpAny_isInstance hTb isSubtype_tuple_tuple ?_)
 simp only [Bool.not_true,Bool.false_eq_true,if_false];refine wpAny_bind (wpAny_tupleItemsOf hoa hda (wpAny_bind (wpAny_tupleItemsOf hob hdb (wpAny_bind ?_))))
 refine wpAny_forIn_list _ (fun rest r s'=>r.1=none/\s'=s/\∃ x' y' xs' ys',rest=List.zip xs' ys'/\Rows knd s.heap x' xs'/\Rows knd s.heap y' ys'/\decide (x'=y')=decide (x=y)/\(xs'.length==ys'.length)=(xs.size==ys.size)) _ ?_ ?_ _ _
  ⟨rfl,rfl,x,y,xs.toList,ys.toList,rfl,hia,hib,rfl,by simp⟩
 ·rintro ⟨u,v⟩ rest r s' ⟨hr,rfl,x',y',xs',ys',hz,hx',hy',hdec,hlen⟩
  cases hx' with
  | nil=>simp at hz
  | @cons k1 u' x'' xs'' h1 hx'' =>
   cases hy' with
   | nil=>simp at hz
   | @cons k2 v' y'' ys'' h2 hy'' =>
    obtain⟨c1,e1,q1⟩:=h1;obtain⟨c2,e2,q2⟩:=h2;simp only [List.zip_cons_cons,List.cons.injEq,Prod.mk.injEq] at hz;obtain⟨⟨z1,z2⟩,rfl⟩:=hz;subst z1 z2 e1 e2;refine wpAny_bind (wpAny_eqBool_tuple hu q1 q2 ?_)
    by_cases hk:k1=k2
    ·subst hk;simp only [decide_true,Bool.not_true,Bool.false_eq_true,if_false];refine wpAny_pure ⟨rfl,rfl,x'',y'',xs'',ys'',rfl,hx'',hy'',?_,by simpa using hlen⟩
     rw [<-hdec];by_cases hxy:x''=y'' <;> simp [hxy]
    ·have hf:decide (x=y)=false:=by rw [<-hdec];simp [hk]
     rw [hf] at h;simp only [decide_eq_false hk,Bool.not_false,if_true];exact wpAny_bind (wpAny_pure (wpAny_pure (wpAny_pure h)))
 ·rintro ⟨r1,r2⟩ s' ⟨hr,rfl,x',y',xs',ys',hz,hx',hy',hdec,hlen⟩
  simp only at hr
  subst hr
  have hfin:(xs.size==ys.size)=decide (x=y):=by
   rw [<-hdec,<-hlen];cases hx' with
   | nil=>cases hy' <;> simp
   | cons _ _ =>
    cases hy' with
    | nil=>simp
    | cons _ _=>simp at hz
  refine wpAny_pure ?_
  show P (.done (.ret (.bool (xs.size==ys.size)))) s'
  rw [hfin];exact h
theorem eq_nest {x y:List (List K)}{a b:Addr}{Q:Bool->Shared->Prop}(hu:A.units+1 < cLine)(hx:IsNest knd s.heap x a)(hy:IsNest knd s.heap y b)(h:Q (decide (x=y)) s):wpAny (model prog w) A (eqBool (.ref a) (.ref b)) Q E s:=by
 unfold eqBool
 try with_reducible refine wpAny_holding ?_
 by_cases hab:(Value.ref a==Value.ref b)=true
 ·have e:a=b:=by
   have:=eq_of_beq hab
   injection this
  subst e;obtain rfl:=hx.inj hy
  simp only [hab,if_true];exact wpAny_bind (wpAny_rule (wpAny_pure (by simpa using h)))
 ·simp only [hab,if_false]
  exact wpAny_bind (wpAny_richCompare_same_room (op:=.Eq) hx.ty hy.ty F.slot_tuple_eq
   (wpAny_call_entry F.slot_tuple_eq hx.ty F.entry_tuple_eq (eq_tree (show A.in1.units < cLine from hu) hx hy ⟨_,rfl,(fun e=>nomatch e),wpAny_truthy_bool h⟩) (F.args_tuple_eq_2 _ _)) (Nat.lt_of_succ_lt hu))
theorem quiet_tuple (n:Nat){ks:List K}{a:Addr}{Q:Bool->Shared->Prop}(hk:IsTupleKey knd s.heap ks a)(h:Q true s):wpAny (model prog w) A (eqIsQuiet (n+1) (.ref a)) Q E s:=by
 have hT:=hk.typeIs;obtain⟨o,items,m,ho,_,hd,hi⟩:=hk;unfold eqIsQuiet;refine wpAny_bind (wpAny_specialOf hT F.slot_tuple_eq.lookup ?_)
 show wpAny _ A (isInstance (.ref a) (.type "tuple") >>= _) _ _ s
 refine wpAny_bind (wpAny_isInstance hT isSubtype_tuple_tuple ?_)
 simp only [Bool.not_true,Bool.false_eq_true,if_false];refine wpAny_bind (wpAny_seqItems ho hd (wpAny_bind ?_))
 show wpAny _ _ (forIn items _ _) _ _ s
 rw [<-Array.forIn_toList];refine wpAny_forIn_list _ (fun rest r s'=>r.1=none/\s'=s/\∀ v∈rest,carriedByValue v=true) _ ?_ ?_ _ _ ⟨rfl,rfl,hi.byValue⟩
 ·rintro v rest r s' ⟨hr,rfl,hall⟩
  rw [eqIsQuiet_byValue _ (hall v List.mem_cons_self)];refine wpAny_bind (wpAny_pure ?_)
  simp only [Bool.not_true,Bool.false_eq_true,if_false];exact wpAny_pure ⟨rfl,rfl,fun u hu'=>hall u (List.mem_cons_of_mem _ hu')⟩
 ·rintro ⟨r1,r2⟩ s' ⟨hr,rfl,_⟩
  simp only at hr
  subst hr;exact wpAny_pure h
theorem quiet_nest {kss:List (List K)}{a:Addr}{Q:Bool->Shared->Prop}(hk:IsNest knd s.heap kss a)(h:Q true s):wpAny (model prog w) A (eqIsQuiet 8 (.ref a)) Q E s:=by
 have hT:=hk.ty;obtain⟨o,items,m,ho,_,hd,hi⟩:=hk;unfold eqIsQuiet;refine wpAny_bind (wpAny_specialOf hT F.slot_tuple_eq.lookup ?_)
 show wpAny _ A (isInstance (.ref a) (.type "tuple") >>= _) _ _ s
 refine wpAny_bind (wpAny_isInstance hT isSubtype_tuple_tuple ?_)
 simp only [Bool.not_true,Bool.false_eq_true,if_false];refine wpAny_bind (wpAny_seqItems ho hd (wpAny_bind ?_))
 show wpAny _ _ (forIn items _ _) _ _ s
 rw [<-Array.forIn_toList];refine wpAny_forIn_list _ (fun rest r s'=>r.1=none/\s'=s/\∃ l,Rows knd s.heap l rest) _ ?_ ?_ _ _ ⟨rfl,rfl,kss,hi⟩
 ·rintro v rest r s' ⟨hr,rfl,l,hl⟩
  cases hl with
  | cons h1 h2 =>
   obtain⟨b,rfl,hb⟩:=h1;refine wpAny_bind (quiet_tuple 6 hb ?_)
   simp only [Bool.not_true,Bool.false_eq_true,if_false];exact wpAny_pure ⟨rfl,rfl,_,h2⟩
 ·rintro ⟨r1,r2⟩ s' ⟨hr,rfl,_⟩
  simp only at hr
  subst hr;exact wpAny_pure h
end
def nestKind {prog:Program}{w:World}{K:Type} [DecidableEq K] (knd:KeyKind prog w K):HeapKind prog w (List (List K)) where
 is:=IsNest knd
 hash:=nestHash knd
 draws:=nestDraws
 room:=fun A=>A.units+1 < cLine
 inj:=fun hx hy=>hx.inj hy
 keeps:=fun x ho hd hs=>x.keeps ho hd hs
 pyHash:=fun hu hk h=>hash_nest hu hk h
 eqBool:=fun hu hx hy h=>eq_nest hu hx hy h
 quiet:=fun hk h=>quiet_nest hk h
end OlNest
end
section
namespace OlSet
open PySem PySem.SetTable
def pr (x:Nat×Nat):Nat×Nat:=((x.1*5+1+x.2 / 32) % 8,x.2 / 32)
def fK (x:Nat×Nat):Nat->Nat×Nat
 | 0=>x
 | n+1=>fK (pr x) n
theorem kD (x:Nat×Nat):∀ n,fK x (n+1)=pr (fK x n)
 | 0=>rfl
 | n+1=>by
  show fK (pr x) (n+1)=pr (fK (pr x) n)
  exact kD (pr x) n
theorem road_add (x:Nat×Nat)(m:Nat):∀ n,fK x (m+n)=fK (fK x m) n
 | 0=>rfl
 | n+1=>by
  rw [<-Nat.add_assoc,kD,road_add x m n,<-kD]
theorem road_two (x:Nat×Nat):∀ n,(fK x n).2=x.2 / 32 ^ n
 | 0=>by simp [fK]
 | n+1=>by
  rw [kD];show(fK x n).2 / 32=_
  rw [road_two x n,Nat.div_div_eq_div_mul,Nat.pow_succ]
theorem road_lt (x:Nat×Nat)(h:x.1 < 8):∀ n,(fK x n).1 < 8
 | 0=>h
 | n+1=>by
  rw [kD];exact Nat.mod_lt _ (by decide)
def at0 (h:Int):Nat×Nat:=(bits h % 8,bits h)
def look (h:Int)(n:Nat):Nat:=(fK (at0 h) n).1
theorem look_lt (h:Int)(n:Nat):look h n < 8:=road_lt _ (Nat.mod_lt _ (by decide)) n
theorem bits_lt (h:Int):bits h < 2 ^ 64:=by
 unfold bits;have h1:=Int.emod_lt_of_pos h (show(0:Int) < 2 ^ 64 by decide)
 have h2:=Int.emod_nonneg h (show(2 ^ 64:Int)≠0 by decide)
 omega
theorem all8:∀ i < 8,∀ j < 8,∃ k < 8,(fK (i,0) k).1=j:=by decide
theorem meets (h:Int)(j:Nat)(hj:j < 8):∃ n < 21,look h n=j:=by
 have e:(fK (at0 h) 13).2=0:=by
  rw [road_two];have:=bits_lt h
  show bits h / 32 ^ 13=0
  exact Nat.div_eq_of_lt (Nat.lt_of_lt_of_le this (by decide))
 obtain⟨k,hk,q⟩:=all8 (fK (at0 h) 13).1 (look_lt h 13) j hj;refine⟨13+k,by omega,?_⟩
 show(fK (at0 h) (13+k)).1=j
 rw [road_add];have e2:fK (at0 h) 13=((fK (at0 h) 13).1,0):=Prod.ext rfl e
 rw [e2];exact q
theorem len_sub:∀ {a xs:List Nat},a.Nodup->(∀ x∈a,x∈xs)->a.length<=xs.length
 | [],_,_,_=>Nat.zero_le _
 | x::a,xs,hn,hs=>by
  obtain⟨h1,h2⟩:=List.nodup_cons.mp hn;have hx:x∈xs:=hs x List.mem_cons_self
  have ih:=len_sub (a:=a) (xs:=xs.erase x) h2 fun y hy=>(List.mem_erase_of_ne (fun(e:y=x)=>h1 (by rw [<-e];exact hy))).mpr (hs y (List.mem_cons_of_mem _ hy))
  have:=List.length_erase_of_mem hx
  have hp:0 < xs.length:=List.length_pos_of_mem hx
  rw [List.length_cons];omega
theorem some_free (xs:List Nat)(h:xs.length < 8):∃ j < 8,j ∉ xs:=by
 apply Classical.byContradiction
 intro hn;have hall:∀ j < 8,j∈xs:=fun j hj=>Classical.byContradiction fun q=>hn ⟨j,hj,q⟩
 have:=len_sub (a:=List.range 8) (xs:=xs) List.nodup_range fun j hj=>hall j (List.mem_range.mp hj)
 rw [List.length_range] at this;omega
theorem first_free (h:Int)(xs:List Nat)(hx:xs.length < 8):∃ n < 21,look h n ∉ xs/\∀ m < n,look h m∈xs:=by
 obtain⟨j,hj,hf⟩:=some_free xs hx;obtain⟨n,hn,e⟩:=meets h j hj
 have key:∀ n,look h n ∉ xs->n < 21->∃ n < 21,look h n ∉ xs/\∀ m < n,look h m∈xs:=by
  intro n;induction n using Nat.strongRecOn with
  | _ n ih =>
   intro h1 h2;by_cases q:∀ m < n,look h m∈xs
   ·exact⟨n,h2,h1,q⟩
   ·obtain⟨m,hm⟩:=Classical.not_forall.mp q;obtain⟨hm1,hm2⟩:=Classical.not_imp.mp hm;exact ih m hm1 hm2 (Nat.lt_trans hm1 h2)
 exact key n (by rw [e];exact hf) hn
def Rise (xs:List Nat):Prop:=xs.Pairwise (· < ·)
theorem rise_lt {xs:List Nat}(r:Rise xs){i j:Nat}{a b:Nat}(hi:xs[i]?=some a)(hj:xs[j]?=some b)(h:i < j):a < b:=by
 obtain⟨h1,e1⟩:=List.getElem?_eq_some_iff.mp hi;obtain⟨h2,e2⟩:=List.getElem?_eq_some_iff.mp hj;rw [<-e1,<-e2];exact List.pairwise_iff_getElem.mp r i j h1 h2 h
theorem rise_inj {xs:List Nat}(r:Rise xs){i j:Nat}{a:Nat}(hi:xs[i]?=some a)(hj:xs[j]?=some a):i=j:=by
 rcases Nat.lt_trichotomy i j with h | h | h
 ·exact absurd (rise_lt r hi hj h) (Nat.lt_irrefl _)
 ·exact h
 ·exact absurd (rise_lt r hj hi h) (Nat.lt_irrefl _)
theorem go_spec (xs:Array Nat)(j:Nat)(r:Rise xs.toList):∀ (fuel lo hi:Nat),hi - lo<=fuel->lo<=hi->hi<=xs.size->(∀ i a,i < lo->xs[i]?=some a->a < j)->(∀ i a,hi<=i->xs[i]?=some a->j<=a) ->
  ∃ p,below.go xs j fuel lo hi=p/\p<=xs.size/\(∀ i a,i < p->xs[i]?=some a->a < j)/\(∀ i a,p<=i->xs[i]?=some a->j<=a)
 | 0,lo,hi,hf,hl,hs,h1,h2=>⟨lo,rfl,by omega,h1,fun i a hi' e=>h2 i a (by omega) e⟩
 | fuel+1,lo,hi,hf,hl,hs,h1,h2=>by
  unfold below.go;by_cases c:lo < hi
  ·rw [if_pos c];have hm:(lo+hi) / 2 < xs.size:=by omega
   have eg:xs[(lo+hi) / 2]?=some xs[(lo+hi) / 2]:=Array.getElem?_eq_getElem hm
   have ed:xs.getD ((lo+hi) / 2) j=xs[(lo+hi) / 2]:=by rw [Array.getD_eq_getD_getElem?,eg];rfl
   have el:∀ (i a:Nat),xs[i]?=some a->xs.toList[i]?=some a:=fun i a e=>by rw [Array.getElem?_toList];exact e
   by_cases d:xs.getD ((lo+hi) / 2) j < j
   ·simp only [d,if_true];refine go_spec xs j r fuel _ _ (by omega) (by omega) hs (fun i a hi' e=>?_) h2
    rw [ed] at d;by_cases q:i=(lo+hi) / 2
    ·subst q;rw [eg] at e;cases e;exact d
    ·exact Nat.lt_trans (rise_lt r (el _ _ e) (el _ _ eg) (by omega)) d
   ·simp only [d,if_false];refine go_spec xs j r fuel _ _ (by omega) (by omega) (by omega) h1 (fun i a hi' e=>?_)
    rw [ed] at d;by_cases q:i=(lo+hi) / 2
    ·subst q;rw [eg] at e;cases e;omega
    ·have:=rise_lt r (el _ _ eg) (el _ _ e) (by omega)
     omega
  ·rw [if_neg c];exact⟨lo,rfl,by omega,h1,fun i a hi' e=>h2 i a (by omega) e⟩
theorem below_spec (xs:Array Nat)(j:Nat)(r:Rise xs.toList):below xs j<=xs.size/\(∀ i a,i < below xs j->xs[i]?=some a->a < j)/\(∀ i a,below xs j<=i->xs[i]?=some a->j<=a):=by
 obtain⟨p,e,h1,h2,h3⟩:=go_spec xs j r xs.size 0 xs.size (by omega) (by omega) (Nat.le_refl _) (fun i a h=>by omega) (fun i a h e=>by
  rw [Array.getElem?_eq_none h] at e
  cases e)
 unfold below;rw [e];exact⟨h1,h2,h3⟩
theorem slot_live {t:SetTable}(r:Rise t.place.toList){i j:Nat}(e:t.place[i]?=some j):t.slot j=.live i:=by
 obtain⟨h1,h2,h3⟩:=below_spec t.place j r
 have hb:below t.place j=i:=by
  rcases Nat.lt_trichotomy i (below t.place j) with h | h | h
  ·exact absurd (h2 i j h e) (Nat.lt_irrefl _)
  ·exact h.symm
  ·have hs:below t.place j < t.place.size:=Nat.lt_trans h (Array.getElem?_eq_some_iff.mp e).1
   have eg:t.place[below t.place j]?=some t.place[below t.place j]:=Array.getElem?_eq_getElem hs
   have a1:=h3 _ _ (Nat.le_refl _) eg;have a2:=rise_lt r (by rw [Array.getElem?_toList];exact eg) (by rw [Array.getElem?_toList];exact e) h
   omega
 unfold slot;simp only [hb,e,beq_self_eq_true,if_true]
theorem slot_empty {t:SetTable}(hd:t.dummies=#[]){j:Nat}(e:j ∉ t.place.toList):t.slot j=.empty:=by
 unfold slot
 have h1:(t.place[below t.place j]?==some j)=false:=by
  cases q:t.place[below t.place j]? with
  | none=>rfl
  | some a =>
   have:a∈t.place.toList:=List.mem_of_getElem? (by rw [Array.getElem?_toList];exact q)
   have:a≠j:=fun z=>e (z ▸ this)
   simp [this]
 have h2:has t.dummies j=false:=by
  rw [hd];rfl
 simp only [h1,h2,Bool.false_eq_true,if_false]
def P (h:Int)(n:Nat):Probe:={j:=look h n,more:=0,i:=look h n,perturb:=(fK (at0 h) n).2,dummy:=none}
theorem start_P {t:SetTable}(hm:t.mask=7) (h:Int):t.probeStart h=P h 0:=by
 unfold probeStart P look fK at0 runEnd;rw [hm];simp
theorem runEnd7 (i:Nat):runEnd 7 i - i=0:=by
 unfold runEnd;rw [if_neg (by omega),Nat.sub_self]
theorem advance_P {t:SetTable}(hm:t.mask=7) (h:Int)(n:Nat):t.advance (P h n)=P h (n+1):=by
 have e:fK (at0 h) (n+1)=pr (fK (at0 h) n):=kD _ _
 have e1:look h (n+1)=(look h n*5+1+(fK (at0 h) n).2 / 32) % 8:=by
  show(fK (at0 h) (n+1)).1=_
  rw [e];rfl
 have e2:(fK (at0 h) (n+1)).2=(fK (at0 h) n).2 / 32:=by rw [e];rfl
 unfold advance;rw [if_neg (by show ¬ (0 > 0);decide)]
 show({j:=(leap t.mask (look h n) (fK (at0 h) n).2).1,more:=runEnd t.mask (leap t.mask (look h n) (fK (at0 h) n).2).1 - (leap t.mask (look h n) (fK (at0 h) n).2).1,i:=(leap t.mask (look h n) (fK (at0 h) n).2).1,perturb:=(leap t.mask (look h n) (fK (at0 h) n).2).2,dummy:=none}:Probe)=P h (n+1)
 rw [hm,runEnd7];unfold P;rw [e1,e2];rfl
theorem go_probe {t:SetTable}(hm:t.mask=7)(hd:t.dummies=#[])(r:Rise t.place.toList)(hashAt:Nat->Int) (h:Int){n0:Nat}(hf:look h n0 ∉ t.place.toList)(hl:∀ m < n0,look h m∈t.place.toList) :
  ∀ (fuel n:Nat),n<=n0->n0 - n < fuel ->
   (probe.go t hashAt h fuel (P h n)=some (.empty (look h n0) none)/\∀ m i,n<=m->m < n0->t.place[i]?=some (look h m)->hashAt i≠h) \/
   ∃ m i,n<=m/\m < n0/\t.place[i]?=some (look h m)/\hashAt i=h/\probe.go t hashAt h fuel (P h n)=some (.candidate (look h m) i (P h (m+1))) /\
    ∀ m' i',n<=m'->m' < m->t.place[i']?=some (look h m')->hashAt i'≠h
 | 0,n,_,hq=>by omega
 | fuel+1,n,hn,hq=>by
  by_cases c:n=n0
  ·subst c;refine .inl ⟨?_,fun m i a b=>by omega⟩
   have hs:t.slot (P h n).j=.empty:=slot_empty hd hf
   unfold probe.go;rw [hs];rfl
  ·have hlt:n < n0:=by omega
   obtain⟨i,hi⟩:∃ i,t.place[i]?=some (look h n):=by
    obtain⟨i,hi,e⟩:=List.getElem_of_mem (hl n hlt);exact⟨i,by rw [<-Array.getElem?_toList,List.getElem?_eq_getElem hi,e]⟩
   have hs:t.slot (P h n).j=.live i:=slot_live r hi
   unfold probe.go;rw [hs];by_cases d:hashAt i=h
   ·refine .inr ⟨n,i,Nat.le_refl _,hlt,hi,d,?_,fun m' i' a b=>by omega⟩
    simp only [d,beq_self_eq_true,if_true,advance_P hm];rfl
   ·have d2:(hashAt i==h)=false:=by simpa using d
    simp only [d2,Bool.false_eq_true,if_false,advance_P hm]
    have own:∀ i',t.place[i']?=some (look h n)->hashAt i'≠h:=fun i' e=>by
     have:i'=i:=rise_inj r (by rw [Array.getElem?_toList];exact e) (by rw [Array.getElem?_toList];exact hi)
     rw [this];exact d
    rcases go_probe hm hd r hashAt h hf hl fuel (n+1) (by omega) (by omega) with ⟨q,w⟩ | ⟨m,i2,a,b,q1,q2,q3,q4⟩
    ·refine .inl ⟨q,fun m i' a b e=>?_⟩
     by_cases z:m=n
     ·subst z;exact own i' e
     ·exact w m i' (by omega) b e
    ·refine .inr ⟨m,i2,by omega,b,q1,q2,q3,fun m' i' a' b' e=>?_⟩
     by_cases z:m'=n
     ·subst z;exact own i' e
     ·exact q4 m' i' (by omega) b' e
theorem insertAt_list {α:Type}(xs:Array α)(p:Nat)(x:α):(insertAt xs p x).toList=xs.toList.take p++x::xs.toList.drop p:=by
 unfold insertAt;rw [Array.toList_append,Array.toList_push,Array.toList_extract,Array.toList_extract];simp [List.extract_eq_take_drop,List.take_of_length_le]
def Reach (ps:List Nat) (h:Int)(s:Nat):Prop:=∃ n,look h n=s/\∀ m < n,look h m∈ps
theorem Reach.mono {ps qs:List Nat}{h:Int}{s:Nat}(r:Reach ps h s)(k:∀ x∈ps,x∈qs):Reach qs h s :=
 let ⟨n,e,hm⟩:=r
 ⟨n,e,fun m hq=>k _ (hm m hq)⟩
theorem rise_insert {t:SetTable}(r:Rise t.place.toList){j:Nat}(hf:j ∉ t.place.toList):Rise (t.place.toList.take (below t.place j)++j::t.place.toList.drop (below t.place j)):=by
 obtain⟨h1,h2,h3⟩:=below_spec t.place j r;have r':Rise (t.place.toList.take (below t.place j)++t.place.toList.drop (below t.place j)):=by rw [List.take_append_drop];exact r
 obtain⟨a,b,c⟩:=List.pairwise_append.mp r';refine List.pairwise_append.mpr ⟨a,List.pairwise_cons.mpr ⟨fun y hy=>?_,b⟩,fun x hx y hy=>?_⟩
 ·obtain⟨i,hi⟩:=List.mem_iff_getElem?.mp hy;rw [List.getElem?_drop,Array.getElem?_toList] at hi;have:=h3 _ _ (Nat.le_add_right _ _) hi
  have:y≠j:=fun e=>hf (e ▸ List.mem_of_mem_drop hy)
  omega
 ·have hxj:x < j:=by
   obtain⟨i,hi⟩:=List.mem_iff_getElem?.mp hx;by_cases q:i < below t.place j
   ·rw [List.getElem?_take_of_lt q,Array.getElem?_toList] at hi;exact h2 _ _ q hi
   ·rw [List.getElem?_take_eq_none (by omega)] at hi;cases hi
  rcases List.mem_cons.mp hy with rfl | hy
  ·exact hxj
  ·exact c x hx y hy
end OlSet
end
section
namespace OlSet
open PySem PySem.SetTable
section
variable {prog:Program}{w:World}{K:Type} [DecidableEq K] (knd:KeyKind prog w K)
structure SetAt (h:Heap)(S:Addr)(es:Array (Int×Value))(t:SetTable)(z:List (Nat×List K×Addr)):Prop where
 obj:∃ o ep,h.get? S=some o/\o.ExactSet/\o.data=Data.set es ep t
 mask:t.mask=7
 dum:t.dummies=#[]
 place:t.place.toList=z.map (·.1)
 ents:es.toList=z.map fun q=>(tupleKeyHash knd q.2.1,Value.ref q.2.2)
 rise:Rise (z.map (·.1))
 keys:∀ q∈z,IsTupleKey knd h q.2.1 q.2.2/\Reach (z.map (·.1)) (tupleKeyHash knd q.2.1) q.1
variable {knd}
variable {A:Around}{E:Value->Shared->Prop}{s:Shared}{S:Addr}{es:Array (Int×Value)}{t:SetTable}{z:List (Nat×List K×Addr)}
theorem SetAt.size {h:Heap}(X:SetAt knd h S es t z):es.size=z.length/\t.place.size=z.length:=by
 have h1:=congrArg List.length X.ents;have h2:=congrArg List.length X.place;simp at h1 h2
 exact⟨h1,h2⟩
theorem SetAt.fits {h:Heap}(X:SetAt knd h S es t z)(hz:z.length<=4):t.fits es.size=true:=by
 obtain⟨h1,h2⟩:=X.size;unfold SetTable.fits SetTable.fill;rw [X.dum,X.mask,h1,h2];simp
 omega
theorem SetAt.ent {h:Heap}(X:SetAt knd h S es t z){i:Nat}{q:Nat×List K×Addr}(e:z[i]?=some q):es[i]?=some (tupleKeyHash knd q.2.1,Value.ref q.2.2)/\t.place[i]?=some q.1:=by
 rw [<-Array.getElem?_toList,X.ents,List.getElem?_map,e,<-Array.getElem?_toList,X.place,List.getElem?_map,e];exact⟨rfl,rfl⟩
theorem SetAt.get {h:Heap}(X:SetAt knd h S es t z){i j:Nat}(e:t.place[i]?=some j):∃ q,z[i]?=some q/\q.1=j:=by
 rw [<-Array.getElem?_toList,X.place,List.getElem?_map] at e;obtain⟨q,h1,h2⟩:=Option.map_eq_some_iff.mp e;exact⟨q,h1,h2⟩
theorem SetAt.state {Q:(Array (Int×Value)×Nat×SetTable)->Shared->Prop}(X:SetAt knd s.heap S es t z)(hz:z.length<=4)(hQ:∀ ep,Q (es,ep,t) s):wpAny (model prog w) A (setState S) Q E s:=by
 obtain⟨o,ep,h1,_,h2⟩:=X.obj;exact wpAny_setState_of h1 h2 (X.fits hz) (hQ ep)
theorem notOfClass {ks:List K}{a:Addr}{Q:Bool->Shared->Prop}(hk:IsTupleKey knd s.heap ks a)(h:Q false s):wpAny (model prog w) A (ofAClassStatement 8 (.ref a)) Q E s:=by
 have hT:=hk.typeIs;obtain⟨o,items,n,ho,hc,hd,hi⟩:=hk;unfold ofAClassStatement;refine wpAny_bind (wpAny_typeOf hT ?_)
 have e1:("tuple" == "tuple")=true:=by decide
 simp only [e1,if_true];refine wpAny_bind (wpAny_pure ?_)
 simp only [Bool.not_true,Bool.false_eq_true,if_false];refine wpAny_bind (wpAny_seqItems ho hd ?_)
 show wpAny _ _ (forIn items _ _ >>= _) _ _ s
 rw [<-Array.forIn_toList];refine wpAny_bind (wpAny_forIn_list _ (fun rest r s'=>r.1=none/\s'=s/\∀ v∈rest,carriedByValue v=true) _ ?_ ?_ _ _ ⟨rfl,rfl,hi.byValue⟩)
 ·rintro v rest r s' ⟨hr,rfl,hall⟩
  have hv:=hall v List.mem_cons_self
  have e:ofAClassStatement 7 v=pure false:=by
   cases v <;> first | rfl | (unfold ofAClassStatement;rfl) | (simp [carriedByValue] at hv)
  rw [e];refine wpAny_bind (wpAny_pure ?_)
  simp only [Bool.false_eq_true,if_false];exact wpAny_pure ⟨rfl,rfl,fun u hu'=>hall u (List.mem_cons_of_mem _ hu')⟩
 ·rintro ⟨r1,r2⟩ s' ⟨hr,rfl,_⟩
  simp only at hr
  subst hr;exact wpAny_pure h
theorem unseen {k:List K}{a:Addr}{Q:Bool->Shared->Prop}(hk:IsTupleKey knd s.heap k a)(l:List Value)(hl:∀ v∈l,∃ k' b,v=Value.ref b/\IsTupleKey knd s.heap k' b)(h:Q false s):wpAny (model prog w) A (searchCouldBeSeen (.ref a) l) Q E s:=by
 unfold searchCouldBeSeen;refine wpAny_bind (wpAny_forIn_list _ (fun rest r s'=>r.1=none/\s'=s/\∀ v∈rest,v∈l) _ ?_ ?_ _ _ ⟨rfl,rfl,fun _ h=>h⟩)
 ·rintro v rest r s' ⟨hr,rfl,hall⟩
  obtain⟨k',b,rfl,hb⟩:=hl v (hall v List.mem_cons_self);by_cases hab:(a==b)=true
  ·simp only [hab,Bool.true_or,if_true];exact wpAny_pure ⟨rfl,rfl,fun u hu=>hall u (List.mem_cons_of_mem _ hu)⟩
  ·have hab':(a==b)=false:=by simpa using hab
   simp only [hab',carriedByValue,Bool.false_and,Bool.or_self,Bool.false_eq_true,if_false];refine wpAny_bind (OlNest.quiet_tuple 7 hk ?_)
   simp only [Bool.not_true,Bool.false_eq_true,if_false];refine wpAny_bind (OlNest.quiet_tuple 7 hb ?_)
   simp only [Bool.not_true,Bool.false_eq_true,if_false];refine wpAny_bind (notOfClass hk ?_)
   simp only [Bool.false_eq_true,if_false];refine wpAny_bind (notOfClass hb ?_)
   simp only [Bool.false_eq_true,if_false];exact wpAny_pure ⟨rfl,rfl,fun u hu=>hall u (List.mem_cons_of_mem _ hu)⟩
 ·rintro ⟨r1,r2⟩ s' ⟨hr,rfl,_⟩
  simp only at hr
  subst hr;exact wpAny_pure h
theorem stored_at {h:Heap}(X:SetAt knd h S es t z){i:Nat}{q:Nat×List K×Addr}(e:z[i]?=some q):(es[i]?.map (·.1)).getD 0=tupleKeyHash knd q.2.1:=by rw [(X.ent e).1];rfl
theorem search_from {k:List K}{a:Addr}{Q:SetFound->Shared->Prop}(hu:A.units < cLine)(X:SetAt knd s.heap S es t z)(hz:z.length<=4)(hk:IsTupleKey knd s.heap k a){n0:Nat}
  (hf:look (tupleKeyHash knd k) n0 ∉ t.place.toList)(hl:∀ m < n0,look (tupleKeyHash knd k) m∈t.place.toList)
  (h1:(∃ q∈z,q.2.1=k)->Q (.there none) s)(h2:(∀ q∈z,q.2.1≠k)->Q (.free (look (tupleKeyHash knd k) n0) false) s)(hn0:n0 < 21) :
  ∀ (d n fuel:Nat)(st:Option Probe),n0 - n=d->n<=n0->d < fuel->st.getD (t.probeStart (tupleKeyHash knd k))=P (tupleKeyHash knd k) n->(∀ (m i:Nat)(q:Nat×List K×Addr),m < n->z[i]?=some q->q.1=look (tupleKeyHash knd k) m->q.2.1≠k) ->
   wpAny (model prog w) A (setSearchFrom S (.ref a) (tupleKeyHash knd k) true fuel st) Q E s:=by
 intro d;induction d using Nat.strongRecOn with
 | _ d ih =>
  intro n fuel st hd hn hfu hst hno;obtain⟨fuel,rfl⟩:∃ f,fuel=f+1:=⟨fuel - 1,by omega⟩
  have rise:Rise t.place.toList:=by rw [X.place];exact X.rise
  unfold setSearchFrom;refine wpAny_bind (X.state hz fun ep=>?_)
  have hgw:t.gaveWay=false:=by unfold SetTable.gaveWay;rw [X.mask];rfl
  simp only [hgw,Bool.false_eq_true,if_false,hst];have hfuel:n0 - n < 10*turns t.mask:=by rw [X.mask];unfold turns;omega
  rcases go_probe X.mask X.dum rise (fun i=>(es[i]?.map (·.1)).getD 0) (tupleKeyHash knd k) hf hl (10*turns t.mask) n hn hfuel with ⟨q,w1⟩ | ⟨m,i,a1,a2,a3,a4,q,w1⟩
  ·have q':t.probe (fun i=>(es[i]?.map (·.1)).getD 0) (tupleKeyHash knd k) (P (tupleKeyHash knd k) n)=some (.empty (look (tupleKeyHash knd k) n0) none):=q
   erw [q']
   refine wpAny_pure (h2 fun q hq e=>?_)
   obtain⟨i,hi⟩:=List.mem_iff_getElem?.mp hq;obtain⟨m,em,hm⟩:=(X.keys q hq).2;rw [e] at em hm
   have hmn:m < n0:=by
    apply Classical.byContradiction
    intro c;have c2:n0 < m\/n0=m:=by omega
    rcases c2 with c2 | c2
    ·exact hf (by rw [X.place];exact hm n0 c2)
    ·subst c2;exact hf (by rw [X.place,em];exact List.mem_map.mpr ⟨q,hq,rfl⟩)
   by_cases c:m < n
   ·exact hno m i q c hi em.symm e
   ·refine w1 m i (by omega) hmn (by rw [(X.ent hi).2,em]) ?_
    rw [stored_at X hi,e]
  ·have q':t.probe (fun i=>(es[i]?.map (·.1)).getD 0) (tupleKeyHash knd k) (P (tupleKeyHash knd k) n)=some (.candidate (look (tupleKeyHash knd k) m) i (P (tupleKeyHash knd k) (m+1))):=q
   obtain⟨e,he,hej⟩:=X.get a3;have hem:e∈z:=List.mem_of_getElem? he
   have hent:=(X.ent he).1
   have hl2:∀ v∈List.map (fun x=>x.snd) (Array.filter (fun x=>x.fst==tupleKeyHash knd k) es).toList,∃ k' b,v=Value.ref b/\IsTupleKey knd s.heap k' b:=by
    intro v hv;obtain⟨p,hp,rfl⟩:=List.mem_map.mp hv;rw [Array.toList_filter] at hp;have hp:=(List.mem_filter.mp hp).1;rw [X.ents] at hp;obtain⟨y,hy,rfl⟩:=List.mem_map.mp hp;exact⟨y.2.1,y.2.2,rfl,(X.keys y hy).1⟩
   erw [q']
   have lf:(t.led=true\/t.led=false):=by cases t.led <;> simp
   have slot:=slot_live rise a3;have ihn:=ih (n0 - (m+1)) (by omega) (m+1) fuel (some (P (tupleKeyHash knd k) (m+1))) rfl (by omega) (by omega) rfl;have sm:t.sameMemory t.moves t.mask=some true:=by unfold SetTable.sameMemory;simp
   have ihn:¬ e.2.1=k->wpAny (model prog w) A (setSearchFrom S (.ref a) (tupleKeyHash knd k) true fuel (some (P (tupleKeyHash knd k) (m+1)))) Q E s:=fun ek=>by
    refine ihn fun m' i' y' hm' hz' e'=>?_
    by_cases c:m' < n
    ·exact hno m' i' y' c hz' e'
    ·by_cases c2:m'=m
     ·subst c2
      have:y'=e:=by
       have e3:i'=i:=rise_inj rise (by rw [Array.getElem?_toList,(X.ent hz').2,e']) (by rw [Array.getElem?_toList];exact a3)
       subst e3;rw [he] at hz';exact(Option.some.inj hz').symm
      rw [this];exact ek
     ·intro c3;refine w1 m' i' (by omega) (by omega) (by rw [(X.ent hz').2,e']) ?_
      rw [stored_at X hz',c3]
   rcases lf with hled | hled
   ·simp only [hled,Bool.not_true,Bool.false_eq_true,if_false,hent];refine wpAny_bind (wpAny_holding (wpAny_eqBool_tuple hu (X.keys e hem).1 hk ?_))
    refine wpAny_bind (X.state hz fun ep2=>?_)
    by_cases ek:e.2.1=k
    ·simp only [ek,decide_true,Bool.and_self,if_true];exact wpAny_pure (h1 ⟨e,hem,ek⟩)
    ·simp only [decide_eq_false ek,Bool.and_false,Bool.false_eq_true,if_false,sm,if_true,slot,hent];refine wpAny_bind (wpAny_isSame_ref_self ?_)
     simp only [if_true];refine wpAny_bind (wpAny_pure ?_)
     exact ihn ek
   ·simp only [hled,Bool.not_false,if_true];refine wpAny_bind (unseen hk _ hl2 ?_)
    simp only [Bool.false_eq_true,if_false,hent];refine wpAny_bind (wpAny_holding (wpAny_eqBool_tuple hu (X.keys e hem).1 hk ?_))
    refine wpAny_bind (X.state hz fun ep2=>?_)
    by_cases ek:e.2.1=k
    ·simp only [ek,decide_true,Bool.and_self,if_true];exact wpAny_pure (h1 ⟨e,hem,ek⟩)
    ·simp only [decide_eq_false ek,Bool.and_false,Bool.false_eq_true,if_false,sm,if_true,slot,hent];refine wpAny_bind (wpAny_isSame_ref_self ?_)
     simp only [if_true];refine wpAny_bind (wpAny_pure ?_)
     exact ihn ek
theorem z_new {h:Heap}(X:SetAt knd h S es t z){p j:Nat}{hh:Int}{v:Value}{k:List K}{a:Addr}(ev:v=Value.ref a)(eh:hh=tupleKeyHash knd k) :
  (insertAt t.place p j).toList=(z.take p++(j,k,a)::z.drop p).map (·.1)/\(insertAt es p (hh,v)).toList=(z.take p++(j,k,a)::z.drop p).map fun q=>(tupleKeyHash knd q.2.1,Value.ref q.2.2):=by
 subst ev eh;rw [insertAt_list,insertAt_list,X.place,X.ents];simp [List.map_take,List.map_drop]
theorem hashByValue_any {ks:List K}{a:Addr}{Q:Bool->Shared->Prop}(n:Nat)(hk:IsTupleKey knd s.heap ks a)(h:∀ b,Q b s):wpAny (model prog w) A (hashByValue (n+1) (.ref a)) Q E s:=by
 have hT:=hk.typeIs;obtain⟨o,items,m,ho,hc,hd,hi⟩:=hk;unfold hashByValue;refine wpAny_bind (wpAny_specialOf hT F.slot_tuple_hash.lookup ?_)
 show wpAny _ _ (seqItems? (.ref a) >>= _) _ _ s
 refine wpAny_bind (wpAny_seqItems ho hd ?_)
 show wpAny _ _ (forIn items _ _ >>= _) _ _ s
 rw [<-Array.forIn_toList];refine wpAny_bind (wpAny_forIn_list _ (fun rest r s'=>r.1=none/\s'=s/\∀ v∈rest,carriedByValue v=true) _ ?_ ?_ _ _ ⟨rfl,rfl,hi.byValue⟩)
 ·rintro v rest r s' ⟨hr,rfl,hall⟩
  have hv:=hall v List.mem_cons_self
  have e:∃ b,hashByValue n v=pure b:=by
   cases v <;> cases n <;> first | exact⟨_,rfl⟩ | (simp [carriedByValue] at hv) | (unfold hashByValue;exact⟨_,rfl⟩)
  obtain⟨b,e⟩:=e;rw [e];refine wpAny_bind (wpAny_pure ?_)
  cases b with
  | true =>
   simp only [Bool.not_true,Bool.false_eq_true,if_false];exact wpAny_pure ⟨rfl,rfl,fun u hu'=>hall u (List.mem_cons_of_mem _ hu')⟩
  | false =>
   simp only [Bool.not_false,if_true];exact wpAny_pure (wpAny_pure (h false))
 ·rintro ⟨r1,r2⟩ s' ⟨hr,rfl,_⟩
  simp only at hr
  subst hr;exact wpAny_pure (h true)
theorem add_hashed {k:List K}{a:Addr}{Q:Bool->Shared->Prop}(hu:A.units < cLine)(X:SetAt knd s.heap S es t z)(hz:z.length < 4)(hk:IsTupleKey knd s.heap k a)(hSa:∀ q∈z,q.2.2≠S)(haS:a≠S)
  (h1:(∃ q∈z,q.2.1=k)->Q false s)
  (h2:(∀ q∈z,q.2.1≠k)->∀ h' es' t' z',SetAt knd h' S es' t' z'->(z'.map (·.2)).Perm (z.map (·.2)++[(k,a)])->Heap.SameBut S s.heap h'->Q true {s with heap:=h'}) :
  wpAny (model prog w) A (setAddHashed S (.ref a) (tupleKeyHash knd k)) Q E s:=by
 have hz4:z.length<=4:=by omega
 have hpl:t.place.toList.length < 8:=by rw [X.place,List.length_map];omega
 obtain⟨n0,hn0,hf,hl⟩:=first_free (tupleKeyHash knd k) t.place.toList hpl;have rise:Rise t.place.toList:=by rw [X.place];exact X.rise
 unfold setAddHashed setAddHashedIn;refine wpAny_holding (wpAny_bind (X.state hz4 fun ep=>?_))
 have hsc:byScan (.ref a) es=false:=by unfold byScan;simp [Value.scannable]
 simp only [hsc,Bool.false_eq_true,if_false];unfold setSearch;refine wpAny_bind (search_from hu X hz4 hk hf hl (fun hx=>?_) (fun hx=>?_) hn0 (n0 - 0) 0 100000 none rfl (Nat.zero_le _) (by omega) (start_P X.mask _) (fun m i q hm=>by omega))
 ·exact wpAny_pure (h1 hx)
 ·refine wpAny_bind (X.state hz4 fun ep2=>?_)
  have hb:=below_spec t.place (look (tupleKeyHash knd k) n0) rise
  have hput:t.put (look (tupleKeyHash knd k) n0)=({t with place:=insertAt t.place (below t.place (look (tupleKeyHash knd k) n0)) (look (tupleKeyHash knd k) n0)},below t.place (look (tupleKeyHash knd k) n0)):=by
   unfold SetTable.put;have e:has t.dummies (look (tupleKeyHash knd k) n0)=false:=by rw [X.dum];rfl
   simp only [e,Bool.false_eq_true,if_false]
  simp only [hput];generalize hp:below t.place (look (tupleKeyHash knd k) n0)=p at *;obtain⟨zn1,zn2⟩:=z_new (S:=S) (es:=es) (t:=t) (z:=z) X (p:=p) (j:=look (tupleKeyHash knd k) n0) (hh:=tupleKeyHash knd k) (v:=.ref a) (k:=k) (a:=a) rfl rfl
  have permz:(z.take p++(look (tupleKeyHash knd k) n0,k,a)::z.drop p).Perm (z++[(look (tupleKeyHash knd k) n0,k,a)]):=by
   refine List.perm_middle.trans ?_
   rw [List.take_append_drop];exact(List.perm_append_singleton _ _).symm
  have lenz:(z.take p++(look (tupleKeyHash knd k) n0,k,a)::z.drop p).length=z.length+1:=by rw [permz.length_eq];simp
  have hsz:(insertAt t.place p (look (tupleKeyHash knd k) n0)).size=z.length+1:=by
   rw [<-Array.length_toList,zn1,List.length_map,lenz]
  have hse:(insertAt es p (tupleKeyHash knd k,Value.ref a)).size=z.length+1:=by
   rw [<-Array.length_toList,zn2,List.length_map,lenz]
  obtain⟨o,ep3,ho,hex,hdat⟩:=X.obj
  have core:∀ pl:Bool,wpAny (model prog w) A (do
    storeSet S (insertAt es p (tupleKeyHash knd k,Value.ref a)) {t with place:=insertAt t.place p (look (tupleKeyHash knd k) n0),plain:=pl}
    if (!false&&({t with place:=insertAt t.place p (look (tupleKeyHash knd k) n0),plain:=pl}:SetTable).tooFull)=true then do
     setRelay S (SetTable.grown (es.size+1))
     pure true
    else pure true) Q E s:=fun pl=>by
   refine wpAny_bind (wpAny_storeSet_of ho hdat ?_ (by rw [hse];exact Nat.le_trans (show z.length+1<=4 by omega) (by decide)))
   have hfull:({t with place:=insertAt t.place p (look (tupleKeyHash knd k) n0),plain:=pl}:SetTable).tooFull=false:=by
    unfold SetTable.tooFull SetTable.fill;simp only [hsz,X.dum,X.mask];simp
    omega
   simp only [hfull,Bool.not_false,Bool.and_false,Bool.false_eq_true,if_false]
   have hg:(s.heap.update S (Obj.putSet (insertAt es p (tupleKeyHash knd k,Value.ref a)) {t with place:=insertAt t.place p (look (tupleKeyHash knd k) n0),plain:=pl})).get? S=some {o with data:=.set (insertAt es p (tupleKeyHash knd k,Value.ref a)) (ep3+1) {t with place:=insertAt t.place p (look (tupleKeyHash knd k) n0),plain:=pl}}:=by
    have:=Heap.get?_update_self (Obj.putSet (insertAt es p (tupleKeyHash knd k,Value.ref a)) {t with place:=insertAt t.place p (look (tupleKeyHash knd k) n0),plain:=pl}) ho (by rw [putSet_of _ _ hdat];rfl)
    rw [putSet_of _ _ hdat] at this;exact this
   have sb:=Heap.SameBut.update s.heap S (Obj.putSet (insertAt es p (tupleKeyHash knd k,Value.ref a)) {t with place:=insertAt t.place p (look (tupleKeyHash knd k) n0),plain:=pl})
   have stay:∀ ks b,b≠S->IsTupleKey knd s.heap ks b->IsTupleKey knd (s.heap.update S (Obj.putSet (insertAt es p (tupleKeyHash knd k,Value.ref a)) {t with place:=insertAt t.place p (look (tupleKeyHash knd k) n0),plain:=pl})) ks b:=fun ks b hb ⟨ob,it,n,g1,g2⟩=>⟨ob,it,n,(sb.2 b hb).trans g1,g2⟩
   have sub:∀ x∈z.map (·.1),x∈(z.take p++(look (tupleKeyHash knd k) n0,k,a)::z.drop p).map (·.1):=fun x hx=>by
    obtain⟨q,hq,rfl⟩:=List.mem_map.mp hx;exact List.mem_map.mpr ⟨q,permz.mem_iff.mpr (List.mem_append_left _ hq),rfl⟩
   refine wpAny_pure (h2 hx _ _ _ (z.take p++(look (tupleKeyHash knd k) n0,k,a)::z.drop p) ⟨⟨_,_,hg,?_,rfl⟩,X.mask,X.dum,zn1,zn2,?_,fun q hq=>?_⟩ ?_ sb)
   ·exact hex
   ·have:=rise_insert rise hf
    rw [hp,X.place] at this;simpa [List.map_take,List.map_drop] using this
   ·rcases List.mem_append.mp (permz.mem_iff.mp hq) with hq | hq
    ·obtain⟨c1,c2⟩:=X.keys q hq;exact⟨stay _ _ (hSa q hq) c1,c2.mono sub⟩
    ·have e:=List.mem_singleton.mp hq;subst e;exact⟨stay _ _ haS hk,n0,rfl,fun m hm=>sub _ (by rw [<-X.place];exact hl m hm)⟩
   ·have:=permz.map (fun q:Nat×List K×Addr=>q.2)
    simpa using this
  split
  ·refine wpAny_bind (hashByValue_any 7 hk fun b=>?_)
   cases b with
   | true =>
    simp only [if_true];exact core t.plain
   | false =>
    simp only [Bool.false_eq_true,if_false];exact core false
  ·refine wpAny_bind (wpAny_pure ?_)
   simp only [if_true];exact core t.plain
end
end OlSet
end
section
namespace OlSet
open PySem PySem.SetTable
def once {α:Type} [DecidableEq α] (l:List α):List α:=l.foldl (fun acc k=>if k∈acc then acc else acc++[k]) []
theorem once_snoc {α:Type} [DecidableEq α] (l:List α)(k:α):once (l++[k])=if k∈once l then once l else once l++[k]:=by unfold once;rw [List.foldl_append];rfl
theorem last_of {α:Type}:∀ (l:List α),0 < l.length->∃ a k,l=a++[k]
 | [],h=>by simp at h
 | [x],_=>⟨[],x,rfl⟩
 | x::y::r,_=>by
  obtain⟨a,k,e⟩:=last_of (y::r) (by simp);exact⟨x::a,k,by rw [e];rfl⟩
theorem once_mem {α:Type} [DecidableEq α] (l:List α)(x:α):x∈once l↔x∈l:=by
 have gen:∀ (n:Nat)(l:List α),l.length=n->(x∈once l↔x∈l):=by
  intro n;induction n with
  | zero=>intro l hl;rw [List.length_eq_zero_iff.mp hl];simp [once]
  | succ n ih =>
   intro l hl;obtain⟨a,k,rfl⟩:=last_of l (by omega);have ih:=ih a (by simpa using hl)
   rw [once_snoc,List.mem_append,List.mem_singleton];split
   ·rename_i hk
    rw [ih];constructor
    ·exact .inl
    ·rintro (h | h)
     ·exact h
     ·rw [<-ih,h];exact hk
   ·rw [List.mem_append,List.mem_singleton,ih]
 exact gen l.length l rfl
theorem once_len {α:Type} [DecidableEq α] (l:List α):(once l).length<=l.length/\((once l).length=l.length↔l.Nodup):=by
 have gen:∀ (n:Nat)(l:List α),l.length=n->((once l).length<=l.length/\((once l).length=l.length↔l.Nodup)):=by
  intro n;induction n with
  | zero=>intro l hl;rw [List.length_eq_zero_iff.mp hl];simp [once]
  | succ n ih =>
   intro l hl;obtain⟨a,k,rfl⟩:=last_of l (by omega);obtain⟨i1,i2⟩:=ih a (by simpa using hl)
   have nd:(a++[k]).Nodup↔a.Nodup/\k ∉ a:=by
    rw [List.nodup_append];constructor
    ·rintro ⟨h1,_,h3⟩
     exact⟨h1,fun hk=>h3 k hk k (by simp) rfl⟩
    ·rintro ⟨h1,h2⟩
     refine⟨h1,by simp,fun x hx y hy=>?_⟩
     rw [List.mem_singleton] at hy;rw [hy];intro e;exact h2 (e ▸ hx)
   rw [once_snoc,nd,List.length_append,List.length_singleton];split
   ·rename_i hk
    rw [once_mem] at hk;refine⟨by omega,⟨fun e=>by omega,fun e=>absurd hk e.2⟩⟩
   ·rename_i hk
    rw [once_mem] at hk;rw [List.length_append,List.length_singleton];refine⟨by omega,⟨fun e=>⟨i2.mp (by omega),hk⟩,fun e=>by rw [i2.mpr e.1]⟩⟩
 exact gen l.length l rfl
section
variable {prog:Program}{w:World}{K:Type} [DecidableEq K] {knd:KeyKind prog w K}{A:Around}{R:Result->Shared->Prop}{I:Addr}{fp wr:List Addr}{G:Array GenState->Array GenState->Prop}{n:Nat}{P:Nat->Value->Prop}{St:Nat->Shared->Prop}
def Has (knd:KeyKind prog w K)(h:Heap)(S:Addr)(ks:List (List K)):Prop:=∃ es t z,SetAt knd h S es t z/\(z.map (·.2.1)).Perm (once ks)
theorem key_ne_set {h:Heap}{S b:Addr}{o:Obj}{ks:List K}(ho:h.get? S=some o)(hex:o.ExactSet)(hb:IsTupleKey knd h ks b):b≠S:=by
 rintro rfl
 obtain⟨o',_,_,g1,g2,_⟩:=hb;rw [ho] at g1;cases g1;rw [hex.1] at g2;injection g2 with g3
 exact absurd g3 (by decide)
theorem SetAt.moved {h h':Heap}{S:Addr}{es:Array (Int×Value)}{t:SetTable}{z:List (Nat×List K×Addr)}(X:SetAt knd h S es t z)(k:∀ b o,h.get? b=some o->(b=S\/∃ ks,IsTupleKey knd h ks b)->h'.get? b=some o):SetAt knd h' S es t z:=by
 obtain⟨o,ep,g1,g2,g3⟩:=X.obj;refine⟨⟨o,ep,k S o g1 (.inl rfl),g2,g3⟩,X.mask,X.dum,X.place,X.ents,X.rise,fun q hq=>?_⟩
 obtain⟨a,b⟩:=X.keys q hq;obtain⟨o',it,m,c1,c2⟩:=id a;exact⟨⟨o',it,m,k _ o' c1 (.inr ⟨_,a⟩),c2⟩,b⟩
def KeysAt (knd:KeyKind prog w K)(h:Heap)(items:Array Value)(kss:List (List K))(S I:Addr):Prop:=∀ (i:Nat)(v:Value),items[i]?=some v->∃ (b:Addr)(k:List K),v=Value.ref b/\kss[i]?=some k/\IsTupleKey knd h k b/\b≠S/\b≠I
theorem KeysAt.moved {h h':Heap}{items:Array Value}{kss:List (List K)}{S I:Addr}(X:KeysAt knd h items kss S I)(k:∀ b o,b≠S->b≠I->h.get? b=some o->h'.get? b=some o):KeysAt knd h' items kss S I:=fun i v e=>by
 obtain⟨b,q,h1,h2,⟨o,it,m,c1,c2⟩,h4,h5⟩:=X i v e;exact⟨b,q,h1,h2,⟨o,it,m,k b o h4 h5 c1,c2⟩,h4,h5⟩
theorem set_loop {l S:Addr}{items:Array Value}{kss:List (List K)}(hh:A.in1.handled=none)(hne:l≠I)(hS1:S≠I)(hS2:S≠l)(hlen:kss.length=items.size)(h4:items.size<=4)(hu:A.units+1 < cLine) :
  ∀ (d i:Nat)(s:Shared),items.size - i=d->i<=items.size->s.heap.IsListIter I l i->s.heap.IsList l items->Has knd s.heap S (kss.take i)->KeysAt knd s.heap items kss S I ->
   (∀ s',Moved [S,I] (fun a b=>b=a) s s'->Has knd s'.heap S kss->R (.ok (.ret .none)) s') ->
   codeAny (model prog w) A (.builtin "set.update.loop" ⟨[.ref S,.ref I],[]⟩) R s:=by
 have W:=(Walks.list (prog:=prog) (w:=w) hh I l hne items).toS
 intro d;induction d with
 | zero =>
  intro i s hd hi st1 st2 hS hK hR;have e:i=items.size:=by omega
  subst e;refine codeAny_builtin PyProof.Rows.F.entry_set_update_loop ?_
  rw [Around.under_plainId PyProof.Rows.F.plain_set_update_loop _];show wpAny _ A.in1 (pyNext (Value.ref I) >>= _) _ _ s
  refine wpAny_bind (W.done s _ _ ⟨st1,st2⟩ fun s' hm=>?_)
  show wpAny _ A.in1 (ret Value.none) _ _ s'
  refine wpAny_pure (hR s' (hm.mono (by simp)) ?_)
  rw [<-hlen,List.take_length] at hS;obtain⟨es,t,z,X,pm⟩:=hS;refine⟨es,t,z,X.moved fun b o e hb=>hm.heap b o ?_ e,pm⟩
  intro hbI;rw [List.mem_singleton] at hbI;subst hbI;rcases hb with hb | ⟨ks,hb⟩
  ·exact hS1 hb.symm
  ·obtain⟨o1,g1,g2,_⟩:=st1;obtain⟨o2,_,_,c1,c2,_⟩:=hb;rw [g1] at c1;cases c1;rw [g2] at c2;injection c2 with c3
   exact absurd c3 (by decide)
 | succ d ih =>
  intro i s hd hi st1 st2 hS hK hR;have hlt:i < items.size:=by omega
  refine codeAny_builtin PyProof.Rows.F.entry_set_update_loop ?_
  rw [Around.under_plainId PyProof.Rows.F.plain_set_update_loop _];show wpAny _ A.in1 (pyNext (Value.ref I) >>= _) _ _ s
  refine wpAny_bind (W.item i s _ _ hlt ⟨st1,st2⟩ fun v s' hP st' hm=>?_)
  have mvI:∀ b o,b≠S->b≠I->s.heap.get? b=some o->s'.heap.get? b=some o:=fun b o _ hb e=>hm.heap b o (by simpa using hb) e
  have hK':=hK.moved mvI;obtain⟨b,k,rfl,hk,hkey,hbS,hbI⟩:=hK' i v hP;obtain⟨es,t,z,X,pm⟩:=hS
  have X':SetAt knd s'.heap S es t z:=X.moved fun c o e hc=>hm.heap c o (by
   intro hcI;rw [List.mem_singleton] at hcI;subst hcI;rcases hc with hc | ⟨ks,hc⟩
   ·exact hS1 hc.symm
   ·obtain⟨o1,g1,g2,_⟩:=st1;obtain⟨o2,_,_,c1,c2,_⟩:=hc;rw [g1] at c1;cases c1;rw [g2] at c2;injection c2 with c3
    exact absurd c3 (by decide)) e
  have zl:z.length < 4:=by
   have h1:=pm.length_eq;rw [List.length_map] at h1;have h2:=(once_len (kss.take i)).1;rw [List.length_take] at h2;omega
  have ez:∀ q∈z,q.2.2≠S:=fun q hq=>by
   obtain⟨o,ep,g1,g2,_⟩:=X'.obj;exact key_ne_set g1 g2 (X'.keys q hq).1
  have tk1:kss.take (i+1)=kss.take i++[k]:=by
   rw [List.take_add_one,hk];rfl
  have mem_z:(∃ q∈z,q.2.1=k)↔k∈once (kss.take i):=by
   rw [<-pm.mem_iff];simp
  show wpAny _ A.in1 (holding [Value.ref b] (setAdd S (.ref b)) >>= _) _ _ s'
  refine wpAny_bind (wpAny_holding ?_)
  unfold setAdd;refine wpAny_holding (wpAny_bind (wpAny_pyHash_tuple (show A.in1.units < cLine from hu) hkey ?_))
  refine add_hashed (s:={s' with toks:=s'.toks+(k.length+1)}) (show A.in1.units < cLine from hu) X' zl hkey ez hbS (fun hx=>?_) (fun hx h' es' t' z' X2 pm2 sb=>?_)
  ·refine wpAny_pure ⟨plainId_quiet PyProof.Rows.F.plain_set_update_loop _,ih (i+1) _ (by omega) hlt st'.1 st'.2 ⟨es,t,z,X',?_⟩ hK' fun s'' hm'' hS''=>?_⟩
   ·rw [tk1,once_snoc,if_pos (mem_z.mp hx)];exact pm
   ·exact hR s'' (Moved.trans (fun _ _ _ a b=>b.trans a) ((hm.mono (by simp)).then_heap (Nat.le_add_right _ _) fun c o _ e=>e) hm'') hS''
  ·refine wpAny_pure ⟨plainId_quiet PyProof.Rows.F.plain_set_update_loop _,ih (i+1) _ (by omega) hlt (st'.1.at fun o e=>?_) (st'.2.at fun o e=>?_) ⟨es',t',z',X2,?_⟩ (hK'.moved fun c o c1 c2 e=>(sb.2 c c1).trans e) fun s'' hm'' hS''=>?_⟩
   ·exact(sb.2 I (Ne.symm hS1)).trans e
   ·exact(sb.2 l (Ne.symm hS2)).trans e
   ·have hkn:k ∉ once (kss.take i):=fun c=>by
     obtain⟨q,hq,e⟩:=mem_z.mpr c;exact hx q hq e
    rw [tk1,once_snoc,if_neg hkn];have:=pm2.map (fun q:List K×Addr=>q.1)
    simp only [List.map_map,List.map_append,List.map_cons,List.map_nil] at this;refine(show(z'.map (·.2.1)).Perm _ from this).trans (pm.append_right [k])
   ·refine hR s'' (Moved.trans (fun _ _ _ a b=>b.trans a) ((hm.mono (by simp)).then_heap (Nat.le_add_right _ _) fun c o hc e=>?_) hm'') hS''
    exact(sb.2 c (fun z=>hc (by simp [z]))).trans e
end
section
variable {prog:Program}{w:World}{K:Type} [DecidableEq K] {knd:KeyKind prog w K}{A:Around}{E:Value->Shared->Prop}{s:Shared}
abbrev cP (led:Bool):Obj:={cls:=.type "set",dict:=none,data:=.set #[] 0 (.fresh 0 0 led)}
theorem has_fresh (led:Bool){h:Heap}{S:Addr}(e:h.get? S=some (cP led)):Has knd h S [] :=
 ⟨#[],.fresh 0 0 led,[],⟨⟨_,0,e,⟨rfl,rfl,rfl⟩,rfl⟩,rfl,rfl,rfl,rfl,List.Pairwise.nil,fun _ hq=>by simp at hq⟩,List.Perm.refl _⟩
set_option maxRecDepth 100000 in
set_option maxHeartbeats 3200000 in
theorem call_set_keys {l:Addr}{items:Array Value}{kss:List (List K)}{Q:Value->Shared->Prop}(hh:A.handled=none)(hu:A.units+16 < cLine)(hl:s.heap.IsList l items)(hlen:kss.length=items.size)(h4:items.size<=4)
  (hk:∀ (i:Nat)(v:Value),items[i]?=some v->∃ (b:Addr)(k:List K),v=Value.ref b/\kss[i]?=some k/\IsTupleKey knd s.heap k b)
  (h:∀ (h':Heap)(tk:Nat),Has knd h' s.heap.objs.size kss->(∀ b o,b < s.heap.objs.size->s.heap.get? b=some o->h'.get? b=some o)->Q (.ref s.heap.objs.size) {s with heap:=h',toks:=tk}) :
  wpAny (model prog w) A (call (.type "set") [.ref l]) Q E s:=by
 obtain⟨c,tl,hmro⟩:=F.called_set.mro;have hmade:=F.called_set.made;have hsub:=F.called_set.sub;refine wpAny_call (codeAny_of_tree ?_)
 show wpAny _ A.in1 (callAny (.type "set") _) _ _ _
 refine wpAny_pure ⟨Code.quiet_builtin _ (by decide +kernel),codeAny_builtin F.entry_type_call ?_⟩
 rw [Around.under_plain (weight_type_call_type "set" [.ref l] []) rfl];have h1:=F.called_set.notType;have h2:=F.called_set.canCreate;have hct:=F.typeCall_set_1 (.ref l)
 repeat (any_goals (first | assumption | wp_step))
 refine codeAny_mono (code_set_new_1 (.ref l) (E:=E) (Q₁:=fun obj s₁=>∃ led:Bool,obj=.ref s.heap.objs.size/\s₁={s with heap:=s.heap.push (cP led)}) fun led=>⟨led,rfl,rfl⟩) fun r s₁ hr=>?_
 cases r with
 | error e=>exact hr
 | ok fl =>
  cases fl with
  | ret obj =>
   obtain⟨led,rfl,rfl⟩:=hr;have hS:(s.heap.push (cP led)).get? s.heap.objs.size=some (cP led):=Heap.get?_push_size _ rfl
   have hT:Shared.TypeIs {s with heap:=s.heap.push (cP led)} (.ref s.heap.objs.size) "set" := ⟨_,hS,rfl⟩
   have hli:=F.called_set.init.lookup;have hbi:=F.called_set.init.bind (.ref s.heap.objs.size)
   repeat (any_goals (first | assumption | wp_step))
   refine codeAny_mono (codeAny_call_builtin (R:=wants (fun r s₂=>r=.none/\∃ h' tk,s₂={s with heap:=h',toks:=tk}/\Has knd h' s.heap.objs.size kss /\
     (∀ b o,b < s.heap.objs.size->s.heap.get? b=some o->h'.get? b=some o)) E) F.called_set.init.plain F.entry_set_init (check_set_init_1 hT ?_)) fun r₂ s₂ hr₂=>?_
   ·obtain⟨ol,hol,hcl,nl,hdl⟩:=hl;obtain⟨ocls,odict,odata,oslots⟩:=ol;simp only at hcl hdl
    subst hcl hdl;have hol':(s.heap.push (cP led)).get? l=some {cls:=.type "list",dict:=odict,data:=.seq items nl,slots:=oslots}:=Heap.get?_push_of_some _ hol
    have hsls:=F.sub_list_set;have hslf:=F.sub_list_frozenset;have hne:(Value.type "list" == Value.type "dict")=false:=by decide
    have hl1:(s.heap.push (cP led)).IsList l items:=⟨_,hol',rfl,nl,rfl⟩
    unfold Builtin.«set.__init__» noKeywords Builtin.Frozenset.updateFrom;generalize hPI:pyIter=PI;wp_walk
    subst hPI;refine wpAny_pyIter_list hl1 (wpAny_bind (wpAny_runValue ?_))
    have hlS:l < s.heap.objs.size:=Heap.lt_size hol
    have szI:(s.heap.push (cP led)).objs.size=s.heap.objs.size+1:=Heap.size_push _ _
    have hneI:l≠(s.heap.push (cP led)).objs.size:=by rw [szI];exact Nat.ne_of_lt (Nat.lt_succ_of_lt hlS)
    have hget:((s.heap.push (cP led)).push {cls:=.type "list_iterator",data:=.fields #[.ref l,.int 0 0]}).get? s.heap.objs.size=some (cP led):=Heap.get?_push_of_some _ hS
    refine set_loop (knd:=knd) (kss:=kss) (items:=items) (l:=l) (by simp [hh]) hneI (by rw [szI];exact Nat.ne_of_lt (Nat.lt_succ_self _)) (Nat.ne_of_gt hlS) hlen h4 ?hu (items.size - 0) 0 _ (by omega) (Nat.zero_le _) ⟨_,Heap.get?_push_size _ rfl,rfl,rfl⟩ (hl1.push _) ?hS0 ?hK ?hR
    case hu=>show A.units+1+1+1 < cLine;omega
    case hS0=>rw [List.take_zero];exact has_fresh led hget
    case hK =>
     intro i v e;obtain⟨b,k,rfl,hki,o,it,m,g1,g2⟩:=hk i v e;have hb:=Heap.lt_size g1;exact⟨b,k,rfl,hki,⟨o,it,m,Heap.get?_push_of_some _ (Heap.get?_push_of_some _ g1),g2⟩,Nat.ne_of_lt hb,by rw [szI];exact Nat.ne_of_lt (Nat.lt_succ_of_lt hb)⟩
    case hR =>
     intro s' hm hS';obtain⟨h',g',d',tk',os'⟩:=s';have eg:g'=s.gens:=hm.gens
     have ed:d'=s.drawn:=hm.drawn
     have eo:os'=s.os:=hm.os
     subst eg ed eo;show wpAny _ _ _ _ _ _
     refine wpAny_pure ?_
     show wpAny _ _ (ret Value.none) _ _ _
     refine wpAny_pure ⟨rfl,h',tk',rfl,hS',fun b o hb e=>?_⟩
     have hb1:b≠s.heap.objs.size:=Nat.ne_of_lt hb
     have hb2:b≠(s.heap.push (cP led)).objs.size:=by rw [szI];exact Nat.ne_of_lt (Nat.lt_succ_of_lt hb)
     exact hm.heap b o (fun q=>(List.mem_cons.mp q).elim hb1 fun q2=>hb2 (List.mem_singleton.mp q2)) (Heap.get?_push_of_some _ (Heap.get?_push_of_some _ e))
   ·cases r₂ with
    | error e=>exact hr₂
    | ok fl₂ =>
     cases fl₂ with
     | ret r =>
      obtain⟨rfl,h',tk,rfl,hS',hk'⟩:=hr₂
      repeat (any_goals (first | assumption | wp_step))
      exact h _ _ hS' hk'
     | _=>exact hr₂.elim
  | _=>exact hr.elim
end
end OlSet
end
section
namespace OlTup
open PySem PyProof.Rows
def lexN:List Int->List Int->Bool
 | [],[]=>false
 | [],_::_=>true
 | _::_,[]=>false
 | x::xs,y::ys=>if x=y then lexN xs ys else decide (x < y)
theorem lexN_cons (x y:Int)(xs ys:List Int):lexN (x::xs) (y::ys)=if x=y then lexN xs ys else decide (x < y):=rfl
section
open PySem.SeqAt
open PySem.AutoSeq1 (wpAny_loadPart')
open PySem.MeetsSeq PySem.MeetsSeq2 PySem.MeetsSeq3
theorem rcGt_int (A:Around)(s:Shared) (a:Int)(t:Tok) (c:Int)(u:Tok)(prog:Program)(w:World)(E:Value->Shared->Prop)(Q:Value->Shared->Prop)(h:Q (.bool (decide (c < a))) s) :
  wpAny (model prog w) A (richCompare .Gt (.int a t) (.int c u)) Q E s:=(PyProof.Rows.gt_int h:wpAny (model prog w) A (compareOp .Gt (.int a t) (.int c u)) Q E s)
theorem gt_ints (l b:Addr)(items items2:Array Value)(n n2:Nat)(dd dd2:Option Addr)(sl sl2:Array (Option Value))(ns ms:List Int)(hi:IntsAre items.toList ns)(hj:IntsAre items2.toList ms) :
  Meets (Builtin.«tuple.__gt__» ⟨[.ref l,.ref b],[]⟩) (fun _ R s=>s.heap.get? l=some {cls:=.type "tuple",dict:=dd,data:=.seq items n,slots:=sl}/\s.heap.get? b=some {cls:=.type "tuple",dict:=dd2,data:=.seq items2 n2,slots:=sl2}/\R (.ok (.ret (.bool (lexN ms ns)))) s) :=
 .of_wp fun prog w A R s h=>by
  obtain⟨hp,g,d,tk,os⟩:=s;obtain⟨hl,hb,h⟩:=h;have f2:=AutoSeq1.sub_tuple_tuple;have z1:items.size=ns.length:=by rw [<-hi.length];simp
  have z2:items2.size=ms.length:=by rw [<-hj.length];simp
  wp_walk using wpAny_loadPart' hl,wpAny_loadPart' hb,wpAny_forIn_list _ (fun rest b s'=>b.1=none/\s'=⟨hp,g,d,tk,os⟩/\∃ (vs ws:List Value)(ns' ms':List Int),rest=vs.zip ws/\IntsAre vs ns'/\IntsAre ws ms'/\ns'.length+items2.size=ms'.length+items.size/\R (.ok (.ret (.bool (lexN ms' ns')))) ⟨hp,g,d,tk,os⟩) _
  case turn =>
   rintro ⟨y,x⟩ rest b s' ⟨hb',rfl,vs,ws,ns',ms',hz,hvi,hwi,hlen,hR⟩
   cases hvi with
   | nil=>rw [List.zip_nil_left] at hz;cases hz
   | cons a t hvi' =>
    cases hwi with
    | nil=>rw [List.zip_nil_right] at hz;cases hz
    | cons c u hwi' =>
     rw [List.zip_cons_cons] at hz;injection hz with hyx hrest
     injection hyx with hy hx
     subst hy hx;rw [lexN_cons] at hR;simp only [List.length_cons] at hlen;have he:SeqAt.EqAt A.in1 ⟨hp,g,d,tk,os⟩ (.int a t) (.int c u) (a==c):=SeqAt.EqAt.int_int a t c u
     refine wpAny_bind (he prog w _ _ ?_)
     by_cases e:a=c
     ·have e2:(a==c)=true:=by simpa using e
      rw [e2];rw [if_pos e.symm] at hR;wp_walk
      exact⟨rfl,rfl,_,_,_,_,hrest,hvi',hwi',by omega,hR⟩
     ·have e2:(a==c)=false:=by simpa using e
      rw [e2];rw [if_neg (fun q=>e q.symm)] at hR
      have hri:=rcGt_int A.in1 ⟨hp,g,d,tk,os⟩ a t c u prog w;wp_walk using hri
      exact⟨_,rfl,by simpa using hR⟩
  case fin =>
   rintro ⟨b1,b2⟩ s' ⟨hb',rfl,vs,ws,ns',ms',hz,hvi,hwi,hlen,hR⟩
   simp only at hb'
   subst hb'
   have hv:lexN ms' ns'=decide (items2.size < items.size):=by
    cases hvi with
    | nil =>
     cases hwi with
     | nil =>
      simp only [List.length_nil] at hlen;exact(decide_eq_false (by omega)).symm
     | cons c u hw =>
      simp only [List.length_nil,List.length_cons] at hlen;exact(decide_eq_false (by omega)).symm
    | cons a t hv =>
     cases hwi with
     | nil =>
      simp only [List.length_nil,List.length_cons] at hlen;exact(decide_eq_true (by omega)).symm
     | cons c u hw =>
      rw [List.zip_cons_cons] at hz;cases hz
   rw [hv] at hR;wp_walk
   exact⟨_,rfl,by simpa [Builtin.Tuple.tupleCompareSizes] using hR⟩
  case h=>exact⟨rfl,rfl,items.toList,items2.toList,ns,ms,rfl,hi,hj,by omega,h⟩
end
section
variable {prog:Program}{w:World}{A:Around}{E:Value->Shared->Prop}{s:Shared}
theorem gt_tup {l b:Addr}{items items2:Array Value}{ns ms:List Int}{Q:Value->Shared->Prop}(hl:IsTup s.heap l items)(hb:IsTup s.heap b items2)(hi:IntsAre items.toList ns)(hj:IntsAre items2.toList ms)
  (hu:A.units < cLine)(h:Q (.bool (lexN ms ns)) s):wpAny (model prog w) A (richCompare .Gt (.ref l) (.ref b)) Q E s:=by
 obtain⟨⟨cls,dd,data,sl⟩,ho,hc,n,hd⟩:=id hl;obtain⟨⟨cls2,dd2,data2,sl2⟩,ho2,hc2,n2,hd2⟩:=id hb;simp only at hc hd hc2 hd2
 subst hc hd hc2 hd2
 exact richCompare_meets_room (op:=.Gt) ⟨_,ho,rfl⟩ ⟨_,ho2,rfl⟩ PySem.F.slot_tuple_gt PySem.F.entry_tuple_gt (PySem.F.args_tuple_gt_2 _ _) (gt_ints l b items items2 n n2 dd dd2 sl sl2 ns ms hi hj)
  ⟨ho,ho2,show Value.bool (lexN ms ns)≠Value.notImplemented/\Q (.bool (lexN ms ns)) s from⟨(fun x=>nomatch x),h⟩⟩ hu
theorem ne1 {b n:Nat}(h:b < n):b≠n+1:=by omega
theorem ne2 {b n:Nat}(h:b < n):b≠n+2:=by omega
theorem max_rest {I T S:Addr}{items:Array Value}{u v:Value}{R:Result->Shared->Prop}(hh:A.in1.handled=none)(hne:T≠I)(hSI:S≠I)(hST:S≠T)(hsz:items.size=2)(h1:items[1]?=some v)(c:Bool)
  (hcmp:∀ (s':Shared),(∀ b o,b≠I->b≠S->s.heap.get? b=some o->s'.heap.get? b=some o)->∀ (Q:Value->Shared->Prop)(E:Value->Shared->Prop),Q (.bool c) s'->wpAny (model prog w) A.in1 (richCompare .Gt v u) Q E s'){k:Nat}
  (st1:s.heap.IsTupleIter I T 1)(st2:s.heap.IsTuple T items)(hS:s.heap.get? S=some {cls:=.type "list",dict:=none,data:=.seq #[u,u] k,slots:=#[]})
  (hR:∀ h' tk,(∀ b o,b≠I->b≠S->s.heap.get? b=some o->h'.get? b=some o)->R (.ok (.ret (if c=true then v else u))) {s with heap:=h',toks:=tk}) :
  codeAny (model prog w) A (.builtin "max.loop" ⟨[.ref I,.none,.ref S],[]⟩) R s:=by
 have W:=Walks.tuple (prog:=prog) (w:=w) hh I T hne items
 have hname:(toString "max" ++ toString ".loop" : String) = "max.loop" := by decide
 have fin:∀ (s2:Shared)(x:Value)(k2:Nat),s2.heap.IsTupleIter I T 2->s2.heap.IsTuple T items->s2.heap.get? S=some {cls:=.type "list",dict:=none,data:=.seq #[x,x] k2,slots:=#[]} ->
   (∀ h' tk,(∀ b o,b≠I->b≠S->s2.heap.get? b=some o->h'.get? b=some o)->R (.ok (.ret x)) {s2 with heap:=h',toks:=tk})->codeAny (model prog w) A (.builtin "max.loop" ⟨[.ref I,.none,.ref S],[]⟩) R s2:=by
  intro s2 x k2 t1 t2 g hq;refine codeAny_builtin F.entry_max_loop ?_
  rw [Around.under_plainId F.plain_max_loop _];show wpAny _ A.in1 (seqItems? (Value.ref S) >>= _) _ _ s2
  refine wpAny_bind (wpAny_seqItems g rfl ?_)
  show wpAny _ A.in1 (tryCatch (pyNext (Value.ref I)) _ >>= _) _ _ s2
  refine wpAny_bind (wpAny_tryCatch (W.done s2 _ _ (by rw [hsz];exact⟨t1,t2⟩) fun h' tk hk'=>?_))
  have g':=hk' S _ (by simpa using hSI) g
  show wpAny _ A.in1 (updateSeq S (fun _=>#[]) >>= _) _ _ _
  refine wpAny_bind (wpAny_updateSeq g' rfl (wpAny_bind (wpAny_letGo (wpAny_pure ?_))))
  exact hq _ tk fun b o hbI hbS e=>(Heap.get?_update_other _ _ (Ne.symm hbS)).trans (hk' b o (by simpa using hbI) e)
 refine codeAny_builtin F.entry_max_loop ?_
 rw [Around.under_plainId F.plain_max_loop _];show wpAny _ A.in1 (seqItems? (Value.ref S) >>= _) _ _ s
 refine wpAny_bind (wpAny_seqItems hS rfl ?_)
 show wpAny _ A.in1 (tryCatch (pyNext (Value.ref I)) _ >>= _) _ _ s
 refine wpAny_bind (wpAny_tryCatch (W.item 1 s _ _ (by rw [hsz];decide) ⟨st1,st2⟩ fun v' h' tk hP hst' hk'=>?_))
 obtain rfl:v'=v:=by
  have hP':items[1]?=some v':=hP
  rw [h1] at hP';exact(Option.some.inj hP').symm
 have g':=hk' S _ (by simpa using hSI) hS
 show wpAny _ A.in1 (tryCatch (holding [v',v'] (richCompare .Gt v' u >>= _)) _ >>= _) _ _ _
 refine wpAny_bind (wpAny_tryCatch (wpAny_holding (wpAny_bind (hcmp {s with heap:=h',toks:=tk} (fun b o hbI _ e=>hk' b o (by simpa using hbI) e) _ _ ?_))))
 refine wpAny_bind (wpAny_holding (wpAny_truthy_bool (wpAny_bind (wpAny_letGo (wpAny_pure ?_)))))
 cases c with
 | true =>
  simp only [if_true] at hR ⊢;refine wpAny_bind (wpAny_updateSeq g' rfl (wpAny_bind (wpAny_letGo ?_)))
  rw [hname];refine wpAny_pure ⟨plainId_quiet F.plain_max_loop _,fin _ v' _ (hst'.1.at fun o e=>?_) (hst'.2.at fun o e=>?_) (Heap.get?_update_self _ g' rfl) fun h'' tk'' hk''=>?_⟩
  ·exact(Heap.get?_update_other _ _ hSI).trans e
  ·exact(Heap.get?_update_other _ _ hST).trans e
  ·exact hR h'' tk'' fun b o hbI hbS e=>hk'' b o hbI hbS ((Heap.get?_update_other _ _ (Ne.symm hbS)).trans (hk' b o (by simpa using hbI) e))
 | false =>
  simp only [Bool.false_eq_true,if_false] at hR ⊢;refine wpAny_bind (wpAny_letGo ?_)
  rw [hname];refine wpAny_pure ⟨plainId_quiet F.plain_max_loop _,fin _ u k hst'.1 hst'.2 g' fun h'' tk'' hk''=>?_⟩
  exact hR h'' tk'' fun b o hbI hbS e=>hk'' b o hbI hbS (hk' b o (by simpa using hbI) e)
theorem max_two {u v:Value}{Q:Value->Shared->Prop}(hh:A.handled=none)(c:Bool)
  (hcmp:∀ (s':Shared),(∀ b o,s.heap.get? b=some o->s'.heap.get? b=some o)->∀ (Q:Value->Shared->Prop)(E:Value->Shared->Prop),Q (.bool c) s'->wpAny (model prog w) A.in1 (richCompare .Gt v u) Q E s')
  (h:∀ h' tk,(∀ b o,s.heap.get? b=some o->h'.get? b=some o)->Q (if c=true then v else u) {s with heap:=h',toks:=tk}):wpAny (model prog w) A (call (.builtin "max") [u,v]) Q E s:=by
 have hname:(toString "max" ++ toString ".loop" : String) = "max.loop" := by decide
 refine call_function_tree F.kind_max F.plain_max F.entry_max (F.args_max2 _ _) ?_
 show wpAny _ A.in1 (Builtin.Builtins.bindParams "max" ["key","default"] 0 ⟨[],[]⟩ >>= _) _ _ s
 refine wpAny_bind (wpAny_of_eq (show Builtin.Builtins.bindParams "max" ["key","default"] 0 (⟨[],[]⟩:Args)=pure [none,none] from rfl) ?_)
 show wpAny _ A.in1 (newTuple [u,v] >>= _) _ _ s
 refine wpAny_bind (wpAny_newObj_type ?_)
 have hT:(s.heap.push {cls:=.type "tuple",data:=.seq #[u,v]}).IsTuple s.heap.objs.size #[u,v]:=⟨_,Heap.get?_push_size _ rfl,rfl,0,rfl⟩
 refine wpAny_bind (wpAny_pyIter_tuple hT ?_)
 refine wpAny_bind (wpAny_newObj_type ?_)
 have z1:(s.heap.push {cls:=.type "tuple",data:=.seq #[u,v]}).objs.size=s.heap.objs.size+1:=Heap.size_push ..
 have z2:((s.heap.push {cls:=.type "tuple",data:=.seq #[u,v]}).push {cls:=.type "tuple_iterator",data:=.fields #[.ref s.heap.objs.size,.int 0 0]}).objs.size=s.heap.objs.size+2:=by rw [Heap.size_push,z1]
 rw [hname]
 have g0:(((s.heap.push {cls:=.type "tuple",data:=.seq #[u,v]}).push {cls:=.type "tuple_iterator",data:=.fields #[.ref s.heap.objs.size,.int 0 0]}).push {cls:=.type "list",data:=.seq #[]}).get? (s.heap.objs.size+2)=some {cls:=.type "list",data:=.seq #[]}:=by
  have:=Heap.get?_push_size ((s.heap.push {cls:=.type "tuple",data:=.seq #[u,v]}).push {cls:=.type "tuple_iterator",data:=.fields #[.ref s.heap.objs.size,.int 0 0]}) (o:={cls:=.type "list",data:=.seq #[]}) rfl
  rw [z2] at this;exact this
 have t0:(((s.heap.push {cls:=.type "tuple",data:=.seq #[u,v]}).push {cls:=.type "tuple_iterator",data:=.fields #[.ref s.heap.objs.size,.int 0 0]}).push {cls:=.type "list",data:=.seq #[]}).IsTupleIter (s.heap.objs.size+1) s.heap.objs.size 0:=by
  have:=Heap.get?_push_size (s.heap.push {cls:=.type "tuple",data:=.seq #[u,v]}) (o:={cls:=.type "tuple_iterator",data:=.fields #[.ref s.heap.objs.size,.int 0 0]}) rfl
  rw [z1] at this;exact⟨_,Heap.get?_push_of_some _ this,rfl,rfl⟩
 have t1:=(hT.push {cls:=.type "tuple_iterator",data:=.fields #[.ref s.heap.objs.size,.int 0 0]}).push {cls:=.type "list",data:=.seq #[]}
 have W:=Walks.tuple (prog:=prog) (w:=w) (A:=A.in1) (by simp [hh]) (s.heap.objs.size+1) s.heap.objs.size (Nat.ne_of_lt (Nat.lt_succ_self _)) #[u,v]
 rw [z1,z2];refine wpAny_pure ⟨plainId_quiet F.plain_max_loop _,codeAny_builtin F.entry_max_loop ?_⟩
 rw [Around.under_plainId F.plain_max_loop _];show wpAny _ A.in1 (seqItems? (Value.ref (s.heap.objs.size+2)) >>= _) _ _ _
 refine wpAny_bind (wpAny_seqItems g0 rfl ?_)
 show wpAny _ A.in1 (tryCatch (pyNext (Value.ref (s.heap.objs.size+1))) _ >>= _) _ _ _
 refine wpAny_bind (wpAny_tryCatch (W.item 0 _ _ _ (show 0 < 2 by decide) ⟨t0,t1⟩ fun v' h' tk hP hst' hk'=>?_))
 obtain rfl:v'=u:=(Option.some.inj (show some u=some v' from hP)).symm
 have g1:=hk' (s.heap.objs.size+2) _ (by simp) g0;show wpAny _ A.in1 (updateSeq (s.heap.objs.size+2) (fun _=>#[v',v']) >>= _) _ _ _
 refine wpAny_bind (wpAny_updateSeq g1 rfl ?_)
 rw [hname]
 have old:∀ b o,s.heap.get? b=some o->(h'.update (s.heap.objs.size+2) (Obj.mapSeq fun _=>#[v',v'])).get? b=some o:=fun b o e=>by
  have hb:=Heap.lt_size e;refine(Heap.get?_update_other _ _ (Ne.symm (ne2 hb))).trans (hk' b o (by simpa using ne1 hb) (Heap.get?_push_of_some _ (Heap.get?_push_of_some _ (Heap.get?_push_of_some _ e))))
 refine wpAny_pure ⟨plainId_quiet F.plain_max_loop _,max_rest (A:=A) (T:=s.heap.objs.size) (items:=#[v',v]) (by simp [hh]) (Nat.ne_of_lt (Nat.lt_succ_self _)) (Nat.ne_of_gt (Nat.lt_succ_self _)) (Nat.ne_of_gt (Nat.lt_add_of_pos_right (by decide))) rfl rfl c (fun s' hk2=>hcmp s' fun b o e=>hk2 b o ?_ ?_ (old b o e)) (hst'.1.at fun o e=>?_) (hst'.2.at fun o e=>?_) (Heap.get?_update_self _ g1 rfl) fun h'' tk'' hk''=>?_⟩
 ·exact ne1 (Heap.lt_size e)
 ·exact ne2 (Heap.lt_size e)
 ·exact(Heap.get?_update_other _ _ (Nat.ne_of_gt (Nat.lt_succ_self _))).trans e
 ·exact(Heap.get?_update_other _ _ (Nat.ne_of_gt (Nat.lt_add_of_pos_right (by decide)))).trans e
 ·exact h h'' tk'' fun b o e=>hk'' b o (ne1 (Heap.lt_size e)) (ne2 (Heap.lt_size e)) (old b o e)
theorem min_rest {I T S:Addr}{items:Array Value}{u v:Value}{R:Result->Shared->Prop}(hh:A.in1.handled=none)(hne:T≠I)(hSI:S≠I)(hST:S≠T)(hsz:items.size=2)(h1:items[1]?=some v)(c:Bool)
  (hcmp:∀ (s':Shared),(∀ b o,b≠I->b≠S->s.heap.get? b=some o->s'.heap.get? b=some o)->∀ (Q:Value->Shared->Prop)(E:Value->Shared->Prop),Q (.bool c) s'->wpAny (model prog w) A.in1 (richCompare .Lt v u) Q E s'){k:Nat}
  (st1:s.heap.IsTupleIter I T 1)(st2:s.heap.IsTuple T items)(hS:s.heap.get? S=some {cls:=.type "list",dict:=none,data:=.seq #[u,u] k,slots:=#[]})
  (hR:∀ h' tk,(∀ b o,b≠I->b≠S->s.heap.get? b=some o->h'.get? b=some o)->R (.ok (.ret (if c=true then v else u))) {s with heap:=h',toks:=tk}) :
  codeAny (model prog w) A (.builtin "min.loop" ⟨[.ref I,.none,.ref S],[]⟩) R s:=by
 have W:=Walks.tuple (prog:=prog) (w:=w) hh I T hne items
 have hname:(toString "min" ++ toString ".loop" : String) = "min.loop" := by decide
 have fin:∀ (s2:Shared)(x:Value)(k2:Nat),s2.heap.IsTupleIter I T 2->s2.heap.IsTuple T items->s2.heap.get? S=some {cls:=.type "list",dict:=none,data:=.seq #[x,x] k2,slots:=#[]} ->
   (∀ h' tk,(∀ b o,b≠I->b≠S->s2.heap.get? b=some o->h'.get? b=some o)->R (.ok (.ret x)) {s2 with heap:=h',toks:=tk})->codeAny (model prog w) A (.builtin "min.loop" ⟨[.ref I,.none,.ref S],[]⟩) R s2:=by
  intro s2 x k2 t1 t2 g hq;refine codeAny_builtin F.entry_min_loop ?_
  rw [Around.under_plainId F.plain_min_loop _];show wpAny _ A.in1 (seqItems? (Value.ref S) >>= _) _ _ s2
  refine wpAny_bind (wpAny_seqItems g rfl ?_)
  show wpAny _ A.in1 (tryCatch (pyNext (Value.ref I)) _ >>= _) _ _ s2
  refine wpAny_bind (wpAny_tryCatch (W.done s2 _ _ (by rw [hsz];exact⟨t1,t2⟩) fun h' tk hk'=>?_))
  have g':=hk' S _ (by simpa using hSI) g
  show wpAny _ A.in1 (updateSeq S (fun _=>#[]) >>= _) _ _ _
  refine wpAny_bind (wpAny_updateSeq g' rfl (wpAny_bind (wpAny_letGo (wpAny_pure ?_))))
  exact hq _ tk fun b o hbI hbS e=>(Heap.get?_update_other _ _ (Ne.symm hbS)).trans (hk' b o (by simpa using hbI) e)
 refine codeAny_builtin F.entry_min_loop ?_
 rw [Around.under_plainId F.plain_min_loop _];show wpAny _ A.in1 (seqItems? (Value.ref S) >>= _) _ _ s
 refine wpAny_bind (wpAny_seqItems hS rfl ?_)
 show wpAny _ A.in1 (tryCatch (pyNext (Value.ref I)) _ >>= _) _ _ s
 refine wpAny_bind (wpAny_tryCatch (W.item 1 s _ _ (by rw [hsz];decide) ⟨st1,st2⟩ fun v' h' tk hP hst' hk'=>?_))
 obtain rfl:v'=v:=by
  have hP':items[1]?=some v':=hP
  rw [h1] at hP';exact(Option.some.inj hP').symm
 have g':=hk' S _ (by simpa using hSI) hS
 show wpAny _ A.in1 (tryCatch (holding [v',v'] (richCompare .Lt v' u >>= _)) _ >>= _) _ _ _
 refine wpAny_bind (wpAny_tryCatch (wpAny_holding (wpAny_bind (hcmp {s with heap:=h',toks:=tk} (fun b o hbI _ e=>hk' b o (by simpa using hbI) e) _ _ ?_))))
 refine wpAny_bind (wpAny_holding (wpAny_truthy_bool (wpAny_bind (wpAny_letGo (wpAny_pure ?_)))))
 cases c with
 | true =>
  simp only [if_true] at hR ⊢;refine wpAny_bind (wpAny_updateSeq g' rfl (wpAny_bind (wpAny_letGo ?_)))
  rw [hname];refine wpAny_pure ⟨plainId_quiet F.plain_min_loop _,fin _ v' _ (hst'.1.at fun o e=>?_) (hst'.2.at fun o e=>?_) (Heap.get?_update_self _ g' rfl) fun h'' tk'' hk''=>?_⟩
  ·exact(Heap.get?_update_other _ _ hSI).trans e
  ·exact(Heap.get?_update_other _ _ hST).trans e
  ·exact hR h'' tk'' fun b o hbI hbS e=>hk'' b o hbI hbS ((Heap.get?_update_other _ _ (Ne.symm hbS)).trans (hk' b o (by simpa using hbI) e))
 | false =>
  simp only [Bool.false_eq_true,if_false] at hR ⊢;refine wpAny_bind (wpAny_letGo ?_)
  rw [hname];refine wpAny_pure ⟨plainId_quiet F.plain_min_loop _,fin _ u k hst'.1 hst'.2 g' fun h'' tk'' hk''=>?_⟩
  exact hR h'' tk'' fun b o hbI hbS e=>hk'' b o hbI hbS (hk' b o (by simpa using hbI) e)
theorem min_two {u v:Value}{Q:Value->Shared->Prop}(hh:A.handled=none)(c:Bool)
  (hcmp:∀ (s':Shared),(∀ b o,s.heap.get? b=some o->s'.heap.get? b=some o)->∀ (Q:Value->Shared->Prop)(E:Value->Shared->Prop),Q (.bool c) s'->wpAny (model prog w) A.in1 (richCompare .Lt v u) Q E s')
  (h:∀ h' tk,(∀ b o,s.heap.get? b=some o->h'.get? b=some o)->Q (if c=true then v else u) {s with heap:=h',toks:=tk}):wpAny (model prog w) A (call (.builtin "min") [u,v]) Q E s:=by
 have hname:(toString "min" ++ toString ".loop" : String) = "min.loop" := by decide
 refine call_function_tree F.kind_min F.plain_min F.entry_min (F.args_min2 _ _) ?_
 show wpAny _ A.in1 (Builtin.Builtins.bindParams "min" ["key","default"] 0 ⟨[],[]⟩ >>= _) _ _ s
 refine wpAny_bind (wpAny_of_eq (show Builtin.Builtins.bindParams "min" ["key","default"] 0 (⟨[],[]⟩:Args)=pure [none,none] from rfl) ?_)
 show wpAny _ A.in1 (newTuple [u,v] >>= _) _ _ s
 refine wpAny_bind (wpAny_newObj_type ?_)
 have hT:(s.heap.push {cls:=.type "tuple",data:=.seq #[u,v]}).IsTuple s.heap.objs.size #[u,v]:=⟨_,Heap.get?_push_size _ rfl,rfl,0,rfl⟩
 refine wpAny_bind (wpAny_pyIter_tuple hT ?_)
 refine wpAny_bind (wpAny_newObj_type ?_)
 have z1:(s.heap.push {cls:=.type "tuple",data:=.seq #[u,v]}).objs.size=s.heap.objs.size+1:=Heap.size_push ..
 have z2:((s.heap.push {cls:=.type "tuple",data:=.seq #[u,v]}).push {cls:=.type "tuple_iterator",data:=.fields #[.ref s.heap.objs.size,.int 0 0]}).objs.size=s.heap.objs.size+2:=by rw [Heap.size_push,z1]
 rw [hname]
 have g0:(((s.heap.push {cls:=.type "tuple",data:=.seq #[u,v]}).push {cls:=.type "tuple_iterator",data:=.fields #[.ref s.heap.objs.size,.int 0 0]}).push {cls:=.type "list",data:=.seq #[]}).get? (s.heap.objs.size+2)=some {cls:=.type "list",data:=.seq #[]}:=by
  have:=Heap.get?_push_size ((s.heap.push {cls:=.type "tuple",data:=.seq #[u,v]}).push {cls:=.type "tuple_iterator",data:=.fields #[.ref s.heap.objs.size,.int 0 0]}) (o:={cls:=.type "list",data:=.seq #[]}) rfl
  rw [z2] at this;exact this
 have t0:(((s.heap.push {cls:=.type "tuple",data:=.seq #[u,v]}).push {cls:=.type "tuple_iterator",data:=.fields #[.ref s.heap.objs.size,.int 0 0]}).push {cls:=.type "list",data:=.seq #[]}).IsTupleIter (s.heap.objs.size+1) s.heap.objs.size 0:=by
  have:=Heap.get?_push_size (s.heap.push {cls:=.type "tuple",data:=.seq #[u,v]}) (o:={cls:=.type "tuple_iterator",data:=.fields #[.ref s.heap.objs.size,.int 0 0]}) rfl
  rw [z1] at this;exact⟨_,Heap.get?_push_of_some _ this,rfl,rfl⟩
 have t1:=(hT.push {cls:=.type "tuple_iterator",data:=.fields #[.ref s.heap.objs.size,.int 0 0]}).push {cls:=.type "list",data:=.seq #[]}
 have W:=Walks.tuple (prog:=prog) (w:=w) (A:=A.in1) (by simp [hh]) (s.heap.objs.size+1) s.heap.objs.size (Nat.ne_of_lt (Nat.lt_succ_self _)) #[u,v]
 rw [z1,z2];refine wpAny_pure ⟨plainId_quiet F.plain_min_loop _,codeAny_builtin F.entry_min_loop ?_⟩
 rw [Around.under_plainId F.plain_min_loop _];show wpAny _ A.in1 (seqItems? (Value.ref (s.heap.objs.size+2)) >>= _) _ _ _
 refine wpAny_bind (wpAny_seqItems g0 rfl ?_)
 show wpAny _ A.in1 (tryCatch (pyNext (Value.ref (s.heap.objs.size+1))) _ >>= _) _ _ _
 refine wpAny_bind (wpAny_tryCatch (W.item 0 _ _ _ (show 0 < 2 by decide) ⟨t0,t1⟩ fun v' h' tk hP hst' hk'=>?_))
 obtain rfl:v'=u:=(Option.some.inj (show some u=some v' from hP)).symm
 have g1:=hk' (s.heap.objs.size+2) _ (by simp) g0;show wpAny _ A.in1 (updateSeq (s.heap.objs.size+2) (fun _=>#[v',v']) >>= _) _ _ _
 refine wpAny_bind (wpAny_updateSeq g1 rfl ?_)
 rw [hname]
 have old:∀ b o,s.heap.get? b=some o->(h'.update (s.heap.objs.size+2) (Obj.mapSeq fun _=>#[v',v'])).get? b=some o:=fun b o e=>by
  have hb:=Heap.lt_size e;refine(Heap.get?_update_other _ _ (Ne.symm (ne2 hb))).trans (hk' b o (by simpa using ne1 hb) (Heap.get?_push_of_some _ (Heap.get?_push_of_some _ (Heap.get?_push_of_some _ e))))
 refine wpAny_pure ⟨plainId_quiet F.plain_min_loop _,min_rest (A:=A) (T:=s.heap.objs.size) (items:=#[v',v]) (by simp [hh]) (Nat.ne_of_lt (Nat.lt_succ_self _)) (Nat.ne_of_gt (Nat.lt_succ_self _)) (Nat.ne_of_gt (Nat.lt_add_of_pos_right (by decide))) rfl rfl c (fun s' hk2=>hcmp s' fun b o e=>hk2 b o ?_ ?_ (old b o e)) (hst'.1.at fun o e=>?_) (hst'.2.at fun o e=>?_) (Heap.get?_update_self _ g1 rfl) fun h'' tk'' hk''=>?_⟩
 ·exact ne1 (Heap.lt_size e)
 ·exact ne2 (Heap.lt_size e)
 ·exact(Heap.get?_update_other _ _ (Nat.ne_of_gt (Nat.lt_succ_self _))).trans e
 ·exact(Heap.get?_update_other _ _ (Nat.ne_of_gt (Nat.lt_add_of_pos_right (by decide)))).trans e
 ·exact h h'' tk'' fun b o e=>hk'' b o (ne1 (Heap.lt_size e)) (ne2 (Heap.lt_size e)) (old b o e)
end
end OlTup
end
section
namespace Ol
open Vbsoab Vbsoac
open Vbsoaa (Man Men Order)
theorem wordsIn_ne (l:Bytes):wordsIn l≠[]:=by
 cases l with
 | nil=>simp [wordsIn]
 | cons b r =>
  unfold wordsIn;split
  ·simp
  ·split <;> simp
theorem wordsIn_plain:∀ (w l:Bytes),(∀ b∈w,b≠32)->∀ h t,wordsIn l=h::t->wordsIn (w++l)=(w++h)::t
 | [],l,_,h,t,e=>by simpa using e
 | b::w,l,hw,h,t,e=>by
  have ih:=wordsIn_plain w l (fun c hc=>hw c (List.mem_cons_of_mem _ hc)) h t e
  show wordsIn (b::(w++l))=_
  unfold wordsIn;rw [ih];have hb:b≠32:=hw b List.mem_cons_self
  simp [hb]
def Rising (l:Men):Prop:=l.Pairwise fun a b=>a.prov < b.prov
theorem manAt_none {l:Men}{p:Nat}:Vbsoaa.manAt l p=none↔∀ m∈l,m.prov≠p:=by
 unfold Vbsoaa.manAt;rw [List.find?_eq_none];simp
theorem kY {l:Men}{p:Nat}{m:Man}(h:Vbsoaa.manAt l p=some m):m∈l/\m.prov=p:=by
 unfold Vbsoaa.manAt at h;have h1:=List.mem_of_find?_eq_some h;have h2:=List.find?_some h;exact⟨h1,by simpa using h2⟩
theorem hW {l:Men}(r:Rising l){m:Man}(h:m∈l):Vbsoaa.manAt l m.prov=some m:=by
 cases e:Vbsoaa.manAt l m.prov with
 | none=>exact absurd rfl (manAt_none.mp e m h)
 | some x =>
  obtain⟨hx,hp⟩:=kY e
  have:∀ {l:Men},Rising l->∀ {a b:Man},a∈l->b∈l->a.prov=b.prov->a=b:=by
   intro l r;induction r with
   | nil=>intro a b ha;simp at ha
   | @cons z l hz _ ih =>
    intro a b ha hb e;rcases List.mem_cons.mp ha with ea | ha'
    ·rcases List.mem_cons.mp hb with eb | hb'
     ·rw [ea,eb]
     ·have:=hz b hb'
      rw [<-ea] at this;omega
    ·rcases List.mem_cons.mp hb with eb | hb'
     ·have:=hz a ha'
      rw [<-eb] at this;omega
     ·exact ih ha' hb' e
  rw [this r hx h hp]
theorem mem_putMan {m x:Man}:∀ {l:Men},x∈putMan m l↔x=m\/x∈l
 | []=>by simp [putMan]
 | y::l=>by
  unfold putMan;split
  ·simp
  ·rw [List.mem_cons,mem_putMan,List.mem_cons];constructor
   ·rintro (h | h | h) <;> simp [h]
   ·rintro (h | h | h) <;> simp [h]
theorem length_putMan (m:Man):∀ l:Men,(putMan m l).length=l.length+1
 | []=>rfl
 | y::l=>by
  unfold putMan;split
  ·rfl
  ·simp [length_putMan m l]
theorem rising_filter {l:Men}(r:Rising l)(f:Man->Bool):Rising (l.filter f):=List.Pairwise.filter f r
end Ol
end
section
namespace L2
open PySem PySem.Spec PyProof.Rows
structure GC (mg:Str->Option Value)(x:Str)(v:V):Prop where
 ex:∃ u,mg x=some u/\RelV v u
theorem eG {X:Cx}{x:Str}{v:V}{pos:Pos}(hg:Gl X x)(h:GC X.mg x v)(hd:(x==("__debug__" : Str))=false:=by decide):PE X (.Name x pos) (tC v):=by
 obtain⟨u,hm,r⟩:=h.ex;exact pe_glob hg hm r hd
structure DefOk (P:Program)(w:World)(K:W.Frag)(mg:Str->Option Value)(base:Heap)(x:Str)(k:Nat)(ps:List Str)(sp:Sp):Prop where
 ex:∃ f fd,mg x=some (.ref f)/\W.keepIn K (.ref f)=true/\Binds K fd ps []/\FnOk P w K mg base CX0 k f fd ps sp
structure MethOk (P:Program)(w:World)(K:W.Frag)(mg:Str->Option Value)(base:Heap)(C:Addr)(m:Str)(k:Nat)(ps:List Str)(sp:Sp):Prop where
 ex:∃ f fd,Meth K C m f/\Binds K fd ps []/\FnOk P w K mg base CX0 k f fd ps sp
structure MakeOk (P:Program)(w:World)(K:W.Frag)(mg:Str->Option Value)(base:Heap)(x:Str)(C:Addr)(k:Nat)(ps:List Str)(sp:Sp):Prop where
 ex:∃ f fd,mg x=some (.ref C)/\Mk K C f/\Binds K fd ps []/\FnOk P w K mg base CX0 k f fd ps sp
section
variable {X:Cx}{k k':Nat}{C:Addr}{ps:List Str}{sp:Sp}{x m:Str}{p pos apos:Pos}{e o:Expr}{es:List Expr}{ta:TE}{t:TA}
theorem eD (D:DefOk X.prog X.w X.K X.mg X.base x k ps sp)(hr:Room k' X.A)(ha:PA X (e::es) t)(hk:k<=k':=by decide)(hg:Gl X x:=by rfl)(hdb:(x==("__debug__" : Str))=false:=by decide)
  (he:starEach (e::es) X.env=(false,eval e X.env)::starEach es X.env:=by rfl)(hpl:(backTo pos (starEach es X.env)).any (·.1)=false:=by rfl):PE X (.Call (.Name x p) (e::es) [] pos) (tCall sp [] E0 t):=by
 obtain⟨f,fd,h1,h2,h3,h4⟩:=D.ex;exact pe_call h4 (hr.mono hk) hg h1 h2 h3 .nil pass0 ha hdb he hpl
theorem aH {pl:Sem Bool}(he:PE X o ta)(c:Cls X.K C)(D:MethOk X.prog X.w X.K X.mg X.base C m k ps sp)(hr:Room k' X.A)(ha:PA X (e::es) t)(hk:k<=k':=by decide)
  (hst:starEach (e::es) X.env=(false,eval e X.env)::starEach es X.env:=by rfl)(hpl:(backTo pos (starEach es X.env)).any (·.1)=false:=by rfl)
  (ht:eval (.Call (.Attribute o m apos) (e::es) [] pos) X.env=(do
   let ov <-eval o X.env
   standAt apos.atName
   let (f,first) <-holding [ov] (getMethod ov m pl)
   callWith pos f first (backTo pos (starEach (e::es) X.env)) (backToKw pos (keywordEach [] X.env))):=by rfl) :
  PE X (.Call (.Attribute o m apos) (e::es) [] pos) (tMeth C m sp [] E0 ta t):=by
 obtain⟨f,fd,h1,h3,h4⟩:=D.ex;exact pe_meth he c h1 h4 (hr.mono hk) h3 .nil pass0 ha hst hpl ht
theorem aU {pl:Sem Bool}(he:PE X o ta)(c:Cls X.K C)(D:MethOk X.prog X.w X.K X.mg X.base C m k ps sp)(hr:Room k' X.A)(hk:k<=k':=by decide)
  (ht:eval (.Call (.Attribute o m apos) [] [] pos) X.env=(do
   let ov <-eval o X.env
   standAt apos.atName
   let (f,first) <-holding [ov] (getMethod ov m pl)
   callWith pos f first (backTo pos (starEach [] X.env)) (backToKw pos (keywordEach [] X.env))):=by rfl) :
  PE X (.Call (.Attribute o m apos) [] [] pos) (tMeth C m sp [] E0 ta tNil):=by
 obtain⟨f,fd,h1,h3,h4⟩:=D.ex;exact pe_meth0 he c h1 h4 (hr.mono hk) h3 .nil pass0 ht
theorem dO (D:MakeOk X.prog X.w X.K X.mg X.base x C k ps sp)(hr:Room k' X.A)(ha:PA X (e::es) t)(hk:k+1<=k':=by decide)(hg:Gl X x:=by rfl)(hdb:(x==("__debug__" : Str))=false:=by decide)
  (he:starEach (e::es) X.env=(false,eval e X.env)::starEach es X.env:=by rfl)(hpl:(backTo pos (starEach es X.env)).any (·.1)=false:=by rfl):PE X (.Call (.Name x p) (e::es) [] pos) (tMake C sp [] E0 t):=by
 obtain⟨f,fd,h1,h2,h3,h4⟩:=D.ex;exact pe_make h2 h4 (hr.mono hk) hg h1 h3 .nil pass0 ha hdb he hpl
theorem pe_makeD0 (D:MakeOk X.prog X.w X.K X.mg X.base x C k ps sp)(hr:Room k' X.A)(hk:k+1<=k':=by decide)(hg:Gl X x:=by rfl)(hdb:(x==("__debug__" : Str))=false:=by decide):PE X (.Call (.Name x p) [] [] pos) (tMake C sp [] E0 tNil):=by
 obtain⟨f,fd,h1,h2,h3,h4⟩:=D.ex;exact pe_make0 h2 h4 (hr.mono hk) hg h1 h3 .nil pass0 hdb
theorem call_lenT:CallR X (.builtin "len") (fun xs H Q=>∃ a kvs,xs=[V.ref a]/\H a=some (.dT kvs)/\Q (.int kvs.length) H):=by
 intro pins s σ H xs us Q I r h;obtain⟨a,kvs,rfl,ha,q⟩:=h;obtain⟨u,rfl,ru⟩:=vals1 r;cases ru;obtain⟨z,y,xs,rp,o,es,ep,h1,h2,h3,h4,h5⟩:=(show ObjOk X.prog X.w H s.heap a (.dT kvs) from I.hok a _ ha)
 have e:es.size=kvs.length:=by rw [<-Array.length_toList,h4,List.length_map,Paired.length rp]
 refine OlLen.len_raw y h1 h2 h3 (by rw [e];rw [sizeLine_eq] at z;omega) fun t s' es'=>?_
 subst es';exact⟨.int kvs.length,H,I.tok _,⟨t,by rw [e]⟩,q⟩
end
def NestAt (H:Hp)(q:Addr)(kss:List (List Key)):Prop:=∃ bs:List Addr,H q=some (.tup (bs.map V.ref))/\Paired (fun ks b=>H b=some (.tup (ks.map kV))) kss bs
theorem NestAt.mono {H H':Hp}{q:Addr}{kss:List (List Key)}(h:NestAt H q kss)(k:∀ b xs,H b=some (.tup xs)->H' b=some (.tup xs)):NestAt H' q kss:=by
 obtain⟨bs,h1,h2⟩:=h;exact⟨bs,k _ _ h1,Paired.mapP h2 fun _ _ z=>k _ _ z⟩
theorem nest_key {P:Program}{w:World}{H:Hp}{h:Heap}{q:Addr}{kss:List (List Key)}(ok:HOk P w H h)(n:NestAt H q kss):(OlNest.nestKind (aS P w)).is h kss q:=by
 obtain⟨bs,h1,h2⟩:=n;obtain⟨_,its,r,o,g1,g2,⟨m,g3⟩,_⟩:=(show ObjOk P w H h q (.tup (bs.map V.ref)) from ok q _ h1)
 refine⟨o,its.toArray,m,g1,g2,g3,?_⟩
 have e:=refs_at r;subst e
 have all:∀ {l:List (List Key)}{m:List Addr},Paired (fun ks b=>H b=some (.tup (ks.map kV))) l m->OlNest.Rows (aS P w) h l (m.map Value.ref):=by
  intro l m z;induction z with
  | nil=>exact .nil
  | cons a _ ih=>exact .cons ⟨_,rfl,key_of ok a⟩ ih
 simpa using all h2
def nestD (P:Program)(w:World)(d:Addr)(xs:List (List (List Key)×Addr×Value)):HO :=
 .ext fun h=>∃ o es ep,h.get? d=some o/\o.ExactDict/\o.data=.dict es ep/\es.toList=xs.map (entryOfKey (OlNest.nestKind (aS P w)))/\(xs.map (·.1)).Nodup
def NestDict (P:Program)(w:World)(H:Hp)(d:Addr)(kvs:List (List (List Key)×V)):Prop :=
 (d==sysModules)=false/\kvs.length<=sizeLine/\∃ xs,H d=some (nestD P w d xs)/\Paired (fun(p:List (List Key)×V)(q:List (List Key)×Addr×Value)=>p.1=q.1/\NestAt H q.2.1 p.1/\RelV p.2 q.2.2) kvs xs
theorem NestDict.mono {P:Program}{w:World}{H H':Hp}{d:Addr}{kvs:List (List (List Key)×V)}(h:NestDict P w H d kvs)(hd:H' d=H d)(k:∀ b xs,H b=some (.tup xs)->H' b=some (.tup xs)):NestDict P w H' d kvs:=by
 obtain⟨h1,h2,xs,h3,h4⟩:=h;exact⟨h1,h2,xs,by rw [hd];exact h3,Paired.mapP h4 fun _ _ z=>⟨z.1,z.2.1.mono k,z.2.2⟩⟩
section
variable {X:Cx}
theorem NestDict.of {pins:List (Addr×Obj)}{σ:St}{H:Hp}{s:Shared}{d:Addr}{kvs:List (List (List Key)×V)}(I:Inv X pins σ H s)(h:NestDict X.prog X.w H d kvs) :
  ∃ xs,Paired (fun(p:List (List Key)×V)(q:List (List Key)×Addr×Value)=>p.1=q.1/\NestAt H q.2.1 p.1/\RelV p.2 q.2.2) kvs xs/\s.heap.DictOfH (OlNest.nestKind (aS X.prog X.w)) d xs:=by
 obtain⟨h1,h2,xs,h3,h4⟩:=h;obtain⟨⟨o,es,ep,g1,g2,g3,g4,g5⟩,_,_⟩:=(show ObjOk X.prog X.w H s.heap d (nestD X.prog X.w d xs) from I.hok d _ h3)
 refine⟨xs,h4,o,es,ep,g1,g2,g3,g4,fun x hx=>?_,g5⟩
 have all:∀ {l:List (List (List Key)×V)}{m:List (List (List Key)×Addr×Value)},Paired (fun(p:List (List Key)×V)(q:List (List Key)×Addr×Value)=>p.1=q.1/\NestAt H q.2.1 p.1/\RelV p.2 q.2.2) l m->∀ x∈m,(OlNest.nestKind (aS X.prog X.w)).is s.heap x.1 x.2.1:=by
  intro l m z;induction z with
  | nil=>intro x hx;exact nomatch hx
  | cons a _ ih =>
   intro x hx;rcases List.mem_cons.mp hx with e | hx
   ·subst e;exact nest_key I.hok (by rw [<-a.1];exact a.2.1)
   ·exact ih x hx
 exact all h4 x hx
theorem nest_val {H:Hp}{kvs:List (List (List Key)×V)}{xs:List (List (List Key)×Addr×Value)}(r:Paired (fun(p:List (List Key)×V)(q:List (List Key)×Addr×Value)=>p.1=q.1/\NestAt H q.2.1 p.1/\RelV p.2 q.2.2) kvs xs)(k:List (List Key)) :
  (cF kvs k).isSome=(atKey xs k).isSome:=by
 induction r with
 | nil=>rfl
 | @cons p q ps qs h t ih =>
  by_cases e:p.1=k
  ·rw [iW e];have e2:q.1=k:=h.1 ▸ e
   unfold atKey;rw [List.find?_cons_of_pos (by simpa using e2)]
   rfl
  ·rw [gN e,ih];have e2:¬ q.1=k:=fun z=>e (h.1.trans z)
   unfold atKey;rw [List.find?_cons_of_neg (by simpa using e2)]
def rInN (P:Program)(w:World)(neg:Bool):R2:=fun x y H Q=>∃ q d kss kvs,x=.ref q/\y=.ref d/\NestAt H q kss/\NestDict P w H d kvs/\Q (.bl (if neg then !(cF kvs kss).isSome else(cF kvs kss).isSome)) H
theorem op_inN (hu:X.A.units+64 < cLine):OpR X (compareOp .In) (rInN X.prog X.w false):=by
 intro pins s σ H x y v u Q I rx ry h;obtain⟨q,d,kss,kvs,rfl,rfl,h1,h2,hq⟩:=h;cases rx;cases ry;obtain⟨xs,r,dd⟩:=h2.of I;refine wpAny_in_heap (knd:=OlNest.nestKind (aS X.prog X.w)) (show X.A.units+1+1 < cLine by omega) (nest_key I.hok h1) h2.1 dd ?_
 exact⟨.bl (cF kvs kss).isSome,H,I.tok _,by rw [nest_val r];rfl,hq⟩
theorem nest_put {H:Hp}{kvs:List (List (List Key)×V)}{xs:List (List (List Key)×Addr×Value)}{q:Addr}{k:List (List Key)}{v:V}{u:Value}(r:Paired (fun(p:List (List Key)×V)(q:List (List Key)×Addr×Value)=>p.1=q.1/\NestAt H q.2.1 p.1/\RelV p.2 q.2.2) kvs xs)
  (hn:cF kvs k=none)(hq:NestAt H q k)(rv:RelV v u):Paired (fun(p:List (List Key)×V)(q:List (List Key)×Addr×Value)=>p.1=q.1/\NestAt H q.2.1 p.1/\RelV p.2 q.2.2) (putK kvs k v) (storedH xs k q u):=by
 have e:=nest_val r k;rw [hn] at e
 have ha:atKey xs k=none:=by
  cases z:atKey xs k with
  | none=>rfl
  | some p=>rw [z] at e;cases e
 rw [putK_new v hn,storedH_new ha];clear e ha hn;induction r with
 | nil=>exact .cons ⟨rfl,hq,rv⟩ .nil
 | cons a _ ih=>exact .cons a ih
theorem set_N (hu:X.A.units+64 < cLine):PSet X (fun o i v H Q=>∃ d q kss kvs,o=.ref d/\i=.ref q/\NestAt H q kss/\NestDict X.prog X.w H d kvs/\kvs.length < sizeLine/\cF kvs kss=none /\
  ∀ o',NestDict X.prog X.w (upd H d o') d (putK kvs kss v)->Q (upd H d o')):=by
 intro pins s σ H o i v ov iv u Q I ro ri rv h;obtain⟨d,q,kss,kvs,rfl,rfl,h1,h2,hl,hv,hq⟩:=h;cases ro;cases ri;obtain⟨xs0,r0,dd0⟩:=h2.of I;obtain⟨z1,z2,xs,h3,h4⟩:=id h2;have hxs:xs.length=kvs.length:=(Paired.length h4).symm
 obtain⟨⟨o1,es,ep,g1,g2,g3,g4,g5⟩,_,_⟩:=(show ObjOk X.prog X.w H s.heap d (nestD X.prog X.w d xs) from I.hok d _ h3)
 have dd:s.heap.DictOfH (OlNest.nestKind (aS X.prog X.w)) d xs:=by
  refine⟨o1,es,ep,g1,g2,g3,g4,fun x hx=>?_,g5⟩
  have all:∀ {l:List (List (List Key)×V)}{m:List (List (List Key)×Addr×Value)},Paired (fun(p:List (List Key)×V)(q:List (List Key)×Addr×Value)=>p.1=q.1/\NestAt H q.2.1 p.1/\RelV p.2 q.2.2) l m->∀ x∈m,(OlNest.nestKind (aS X.prog X.w)).is s.heap x.1 x.2.1:=by
   intro l m z;induction z with
   | nil=>intro x hx;exact nomatch hx
   | cons a _ ih =>
    intro x hx;rcases List.mem_cons.mp hx with e | hx
    ·subst e;exact nest_key I.hok (by rw [<-a.1];exact a.2.1)
    ·exact ih x hx
  exact all h4 x hx
 refine wpAny_setItem_heap (knd:=OlNest.nestKind (aS X.prog X.w)) (hsz:=by rw [hxs];omega) (show X.A.units+1+1 < cLine by omega) (nest_key I.hok h1) dd fun h' dd' hs=>?_
 obtain⟨o2,es2,ep2,k1,k2,k3,k4,_,k5⟩:=dd'
 have stay:∀ b ys,H b=some (.tup ys)->upd H d (nestD X.prog X.w d (storedH xs kss q u)) b=some (.tup ys):=fun b ys e=>by
  rw [uN (bB e h3 (fun z=>by unfold nestD at z;cases z))]
  exact e
 have new:NestDict X.prog X.w (upd H d (nestD X.prog X.w d (storedH xs kss q u))) d (putK kvs kss v):=by
  refine⟨z1,by have:=length_putK kvs kss v;omega,_,uS,?_⟩
  exact Paired.mapP (nest_put h4 hv h1 rv) fun _ _ z=>⟨z.1,z.2.1.mono stay,z.2.2⟩
 refine⟨_,d_write (ob:=nestD X.prog X.w d (storedH xs kss q u)) I (by rw [h3];exact True.intro) hs ⟨o2,k1⟩ ?_,hq _ new⟩
 exact⟨⟨o2,es2,ep2,k1,k2,k3,k4,k5⟩,⟨o2,k1⟩,fun h1 h2 ⟨o3,a,b,c1,c2⟩ c3=>⟨o3,a,b,c3 o3 c1,c2⟩⟩
def tDNewN (P:Program)(w:World):TE:=fun _ H Q=>∀ p,H p=none->NestDict P w (upd H p (nestD P w p [])) p []->Q (.ref p) (upd H p (nestD P w p []))
theorem pe_dnewN {pos:Pos}:PE X (.Dict [] [] pos) (tDNewN X.prog X.w):=fun pins s σ H Q I h=>by
 have hb:(s.heap.objs.size==sysModules)=false:=beq_eq_false_iff_ne.mpr (Ne.symm (Nat.ne_of_lt I.big))
 refine wpAny_Dict_empty ⟨.ref s.heap.objs.size,_,I.laid (a:=s.heap.objs.size) (o:=nestD X.prog X.w s.heap.objs.size []) (t':=s.toks) (fun _ _ q=>Heap.get?_push_of_some _ q) (Nat.le_refl _) ?_,rfl,h _ (I.hok.fresh (Nat.le_refl _)) ⟨hb,Nat.zero_le _,[],uS,.nil⟩⟩
 exact⟨⟨_,#[],0,Heap.get?_push_size _ rfl,⟨rfl,rfl,rfl⟩,rfl,rfl,List.nodup_nil⟩,⟨_,Heap.get?_push_size _ rfl⟩,fun h1 h2 ⟨o3,a,b,c1,c2⟩ c3=>⟨o3,a,b,c3 o3 c1,c2⟩⟩
theorem call_lenN:CallR X (.builtin "len") (fun xs H Q=>∃ a kvs,xs=[V.ref a]/\NestDict X.prog X.w H a kvs/\Q (.int kvs.length) H):=by
 intro pins s σ H xs us Q I r h;obtain⟨a,kvs,rfl,ha,q⟩:=h;obtain⟨u,rfl,ru⟩:=vals1 r;cases ru;obtain⟨ys,rp,o,es,ep,h1,h2,h3,h4,h5⟩:=ha.of I;have z:=ha.2.1;have e:es.size=kvs.length:=by rw [<-Array.length_toList,h4,List.length_map,Paired.length rp]
 refine OlLen.len_raw ha.1 h1 h2 h3 (by rw [e];rw [sizeLine_eq] at z;omega) fun t s' es'=>?_
 subst es';exact⟨.int kvs.length,H,I.tok _,⟨t,by rw [e]⟩,q⟩
def setD (S:Addr)(n:Nat):HO:=.ext fun h=>∃ o es ep t,h.get? S=some o/\o.ExactSet/\o.data=.set es ep t/\SetTable.fits t es.size=true/\es.size=n/\n<=4
theorem call_setT (hc:X.calm=true)(hu:X.A.units+64 < cLine):CallR X (.type "set") (fun xs H Q=>∃ (a:Addr)(ps:List Addr)(kss:List (List Key)),xs=[.ref a]/\SqL X.K H a (ps.map V.ref)/\Paired (fun ks p=>H p=some (.tup (ks.map kV))) kss ps/\ps.length<=4 /\
  ∀ (S:Addr)(n:Nat),H S=none->n<=kss.length->(n=kss.length↔kss.Nodup)->Q (.ref S) (upd H S (setD S n))):=by
 intro pins s σ H xs us Q I r h;obtain⟨a,ps,kss,rfl,hl,hp,h4,hq⟩:=h;obtain⟨u,rfl,ru⟩:=vals1 r;cases ru;obtain⟨its,rv,pl,hz⟩:=I.list hl;have e:=refs_at rv;subst e;have hlen:kss.length=(ps.map Value.ref).toArray.size:=by rw [List.size_toArray,List.length_map];exact Paired.length hp
 have h4':(ps.map Value.ref).toArray.size<=4:=by rw [List.size_toArray,List.length_map];exact h4
 refine OlSet.call_set_keys (knd:=aS X.prog X.w) (kss:=kss) (I.ok.hd hc) (by omega) pl.isList hlen h4' (fun i v ev=>?_) fun h' tk hS keep=>?_
 ·have ev':(ps.map Value.ref)[i]?=some v:=by rw [<-ev];simp
  rw [List.getElem?_map] at ev';obtain⟨b,hb,rfl⟩:=Option.map_eq_some_iff.mp ev'
  have get:∀ {l:List (List Key)}{m:List Addr},Paired (fun ks p=>H p=some (.tup (ks.map kV))) l m->∀ (i:Nat)(b:Addr),m[i]?=some b->∃ k,l[i]?=some k/\H b=some (.tup (k.map kV)):=by
   intro l m z;induction z with
   | nil=>intro i b e;simp at e
   | @cons x y xs ys h t ih =>
    intro i b e;cases i with
    | zero =>
     have e:y=b:=by simpa using e
     subst e;exact⟨x,rfl,h⟩
    | succ i=>exact ih i b (by simpa using e)
  obtain⟨k,hk,hkb⟩:=get hp i b hb;exact⟨b,k,rfl,hk,key_of I.hok hkb⟩
 ·obtain⟨es,t,z,SA,pm⟩:=hS;have hon:=OlSet.once_len kss;have hzl:z.length=(OlSet.once kss).length:=by rw [<-pm.length_eq,List.length_map]
  have hz4:z.length<=4:=by have:=hon.1;omega
  obtain⟨o,ep,g1,g2,g3⟩:=SA.obj;refine⟨.ref s.heap.objs.size,upd H s.heap.objs.size (setD s.heap.objs.size z.length),I.laid (t':=tk) (fun b ob q=>keep b ob (Heap.lt_size q) q) (Nat.le_refl _) ?_,rfl,hq _ _ (I.hok.fresh (Nat.le_refl _)) (by rw [hzl];exact hon.1) (by rw [hzl];exact hon.2)⟩
  exact⟨⟨o,es,ep,t,g1,g2,g3,SA.fits hz4,SA.size.1,hz4⟩,⟨o,g1⟩,fun h1 h2 ⟨o3,a,b,c,c1,c2⟩ c3=>⟨o3,a,b,c,c3 o3 c1,c2⟩⟩
theorem call_lenS:CallR X (.builtin "len") (fun xs H Q=>∃ (S:Addr)(n:Nat),xs=[V.ref S]/\H S=some (setD S n)/\Q (.int n) H):=by
 intro pins s σ H xs us Q I r h;obtain⟨S,n,rfl,ha,q⟩:=h;obtain⟨u,rfl,ru⟩:=vals1 r;cases ru;obtain⟨⟨o,es,ep,t,h1,h2,h3,h4,h5,h6⟩,_,_⟩:=(show ObjOk X.prog X.w H s.heap S (setD S n) from I.hok S _ ha)
 subst h5;refine call_len_set h1 h2 h3 h4 (Int.lt_of_le_of_lt (Int.ofNat_le.mpr h6) (by decide)) ?_
 exact⟨.int es.size,H,I.tok _,⟨_,rfl⟩,q⟩
theorem lexN_eq:∀ (xs ys:List Int),HT.lexLt xs ys=OlTup.lexN xs ys
 | [],[]=>rfl
 | [],_::_=>rfl
 | _::_,[]=>rfl
 | x::xs,y::ys=>by rw [HT.lexLt_cons,OlTup.lexN_cons,lexN_eq xs ys]
theorem call_min2T (hc:X.calm=true)(hu:X.A.units+64 < cLine):CallR X (.builtin "min") (fun xs H Q=>∃ (a b:Addr)(ns ms:List Int),xs=[V.ref a,V.ref b]/\SqT X.K H a (ns.map V.int)/\SqT X.K H b (ms.map V.int)/\Q (if OlTup.lexN ms ns=true then .ref b else .ref a) H):=by
 intro pins s σ H xs us Q I r h;obtain⟨a,b,ns,ms,rfl,ha,hb,q⟩:=h;obtain⟨u,v,rfl,ru,rv⟩:=vals2 r;cases ru;cases rv;obtain⟨ia,va,ta,_⟩:=I.tuple ha;obtain⟨ib,vb,tb,_⟩:=I.tuple hb;refine OlTup.min_two (I.ok.hd hc) (OlTup.lexN ms ns) (fun s' k Q' E' hq=>?_) fun h' tk k=>⟨_,H,I.kept k,?_,q⟩
 ·obtain⟨o1,x1,x2⟩:=ta;obtain⟨o2,y1,y2⟩:=tb;have hm:=HT.lt_tupInts (prog:=X.prog) (w:=X.w) (A:=X.A.in1) (E:=E') (s:=s') (Q:=Q') (l:=b) (b:=a) ⟨o2,k _ _ y1,y2⟩ ⟨o1,k _ _ x1,x2⟩ (ns:=ms) (ms:=ns) (by simpa using intsAre_of vb) (by simpa using intsAre_of va) (show X.A.units+1 < cLine by omega) (by rw [lexN_eq];exact hq)
  exact hm
 ·split <;> rfl
theorem call_max2T (hc:X.calm=true)(hu:X.A.units+64 < cLine):CallR X (.builtin "max") (fun xs H Q=>∃ (a b:Addr)(ns ms:List Int),xs=[V.ref a,V.ref b]/\SqT X.K H a (ns.map V.int)/\SqT X.K H b (ms.map V.int)/\Q (if OlTup.lexN ns ms=true then .ref b else .ref a) H):=by
 intro pins s σ H xs us Q I r h;obtain⟨a,b,ns,ms,rfl,ha,hb,q⟩:=h;obtain⟨u,v,rfl,ru,rv⟩:=vals2 r;cases ru;cases rv;obtain⟨ia,va,ta,_⟩:=I.tuple ha;obtain⟨ib,vb,tb,_⟩:=I.tuple hb;refine OlTup.max_two (I.ok.hd hc) (OlTup.lexN ns ms) (fun s' k Q' E' hq=>?_) fun h' tk k=>⟨_,H,I.kept k,?_,q⟩
 ·obtain⟨o1,x1,x2⟩:=ta;obtain⟨o2,y1,y2⟩:=tb;exact OlTup.gt_tup (prog:=X.prog) (w:=X.w) (A:=X.A.in1) (E:=E') (s:=s') (Q:=Q') (l:=b) (b:=a) ⟨o2,k _ _ y1,y2⟩ ⟨o1,k _ _ x1,x2⟩ (ns:=ms) (ms:=ns) (by simpa using intsAre_of vb) (by simpa using intsAre_of va) (show X.A.units+1 < cLine by omega) hq
 ·split <;> rfl
theorem call_min2A (hc:X.calm=true)(hu:X.A.units+64 < cLine):CallR X (.builtin "min") (fun xs H Q=>(∃ i j,xs=[.int i,.int j]/\Q (.int (if j < i then j else i)) H)\/∃ (a b:Addr)(ns ms:List Int),xs=[V.ref a,V.ref b]/\SqT X.K H a (ns.map V.int)/\SqT X.K H b (ms.map V.int)/\Q (if OlTup.lexN ms ns=true then .ref b else .ref a) H):=CallR.or (call_min2 hc) (call_min2T hc hu)
theorem call_max2A (hc:X.calm=true)(hu:X.A.units+64 < cLine):CallR X (.builtin "max") (fun xs H Q=>(∃ i j,xs=[.int i,.int j]/\Q (.int (if j > i then j else i)) H)\/∃ (a b:Addr)(ns ms:List Int),xs=[V.ref a,V.ref b]/\SqT X.K H a (ns.map V.int)/\SqT X.K H b (ms.map V.int)/\Q (if OlTup.lexN ns ms=true then .ref b else .ref a) H):=CallR.or (call_max2 hc) (call_max2T hc hu)
end
end L2
end
section
namespace L2
open PySem PySem.Spec PyProof.Rows
theorem Same.upd {H H':Hp}{p:Addr}{o:HO}(e:Same H H')(h:H p=none):Same H (upd H' p o):=fun b u q=>by
 rw [uN (nN q h)];exact e b u q
theorem Same.new {H:Hp}{p:Addr}{o:HO}(h:H p=none):Same H (L2.upd H p o):=(Same.refl H).upd h
theorem Same.tup {K:W.Frag}{H H':Hp}{a:Addr}{xs:List V}(e:Same H H')(h:SqT K H a xs):SqT K H' a xs:=by
 rcases h with (h | ⟨o,h⟩) | h
 ·exact .inl (.inl (e _ _ h))
 ·exact .inl (.inr ⟨o,e _ _ h⟩)
 ·exact .inr h
theorem cG {α:Type}:∀ {l:List α}{i:Nat}{x:α},l[i]?=some x->l.take (i+1)=l.take i++[x]
 | [],i,x,h=>by simp at h
 | a::l,0,x,h=>by
  have e:a=x:=Option.some.inj h
  subst e;rfl
 | a::l,i+1,x,h=>by
  have ih:=cG (l:=l) (i:=i) (x:=x) h
  show a::l.take (i+1)=a::l.take i++[x]
  rw [ih];rfl
theorem wipe1 {σ:St}{j:Nat}{x:Option V}:bX ((bX σ [j]).set j x) [j]=bX σ [j]:=by
 show List.set (List.set (List.set σ j none) j x) j none=List.set σ j none
 rw [List.set_set,List.set_set]
section
variable {K:W.Frag}{a:Addr}{xs:List V}{te:TE}{j:Nat}{σ:St}{H H0:Hp}{Q:VK}{wi:TI}
theorem lc_list1 (g:V->V)(hw:∀ R:It->Hp->Prop,R (Itl K a) H->wi σ H0 R)(hl:SqL K H a xs)(hz:xs.length<=sizeLine)
  (he:∀ (i:Nat)(x:V)(H1:Hp)(R:VK),xs[i]?=some x->Same H H1->(∀ H2,Same H1 H2->R (g x) H2)->te ((bX σ [j]).set j (some x)) H1 R)
  (hq:∀ D H1,H D=none->Same H H1->H1 D=some (.lst (xs.map g))->Q (.ref D) H1):tLc wi (gJ j) tYes te [j] σ H0 Q:=by
 refine hw _ fun D hD=>?_
 refine lc_list (K:=K) (a:=a) (xs:=xs) (fun i H'=>Same H H'/\H' D=some (.lst ((xs.take i).map g))) ⟨Same.new hD,uS⟩ (fun i H' _ p=>p.1.seq hl) (fun i x H' hi p=>?_) fun H' p=>hq D H' hD p.1 (by rw [p.2,List.take_length])
 simp only [gJ,tYes,if_true,wipe1,true_and];refine he i x H' _ hi p.1 fun H2 s2=>⟨_,s2 _ _ p.2,?_,(p.1.trans s2).upd hD,?_⟩
 ·rw [List.length_map,List.length_take];have:=(List.getElem?_eq_some_iff.mp hi).1
  omega
 ·rw [uS,cG hi,List.map_append];rfl
theorem lc_tup1 (g:V->V)(hw:∀ R:It->Hp->Prop,R (Itt K a) H->wi σ H0 R)(hl:SqT K H a xs)(hz:xs.length<=sizeLine)
  (he:∀ (i:Nat)(x:V)(H1:Hp)(R:VK),xs[i]?=some x->Same H H1->(∀ H2,Same H1 H2->R (g x) H2)->te ((bX σ [j]).set j (some x)) H1 R)
  (hq:∀ D H1,H D=none->Same H H1->H1 D=some (.lst (xs.map g))->Q (.ref D) H1):tLc wi (gJ j) tYes te [j] σ H0 Q:=by
 refine hw _ fun D hD=>?_
 refine lc_tup (K:=K) (a:=a) (xs:=xs) (fun i H'=>Same H H'/\H' D=some (.lst ((xs.take i).map g))) ⟨Same.new hD,uS⟩ (fun i H' _ p=>p.1.tup hl) (fun i x H' hi p=>?_) fun H' p=>hq D H' hD p.1 (by rw [p.2,List.take_length])
 simp only [gJ,tYes,if_true,wipe1,true_and];refine he i x H' _ hi p.1 fun H2 s2=>⟨_,s2 _ _ p.2,?_,(p.1.trans s2).upd hD,?_⟩
 ·rw [List.length_map,List.length_take];have:=(List.getElem?_eq_some_iff.mp hi).1
  omega
 ·rw [uS,cG hi,List.map_append];rfl
theorem lc_list2 (ys:List V)(hy:ys.length=xs.length)(hw:∀ R:It->Hp->Prop,R (Itl K a) H->wi σ H0 R)(hl:SqL K H a xs)(hz:xs.length<=sizeLine)
  (he:∀ (i:Nat)(x y:V)(H1:Hp)(R:VK),xs[i]?=some x->ys[i]?=some y->Same H H1->(∀ H2,Same H1 H2->R y H2)->te ((bX σ [j]).set j (some x)) H1 R)
  (hq:∀ D H1,H D=none->Same H H1->H1 D=some (.lst ys)->Q (.ref D) H1):tLc wi (gJ j) tYes te [j] σ H0 Q:=by
 refine hw _ fun D hD=>?_
 refine lc_list (K:=K) (a:=a) (xs:=xs) (fun i H'=>Same H H'/\H' D=some (.lst (ys.take i))) ⟨Same.new hD,uS⟩ (fun i H' _ p=>p.1.seq hl) (fun i x H' hi p=>?_) fun H' p=>hq D H' hD p.1 (by rw [p.2,<-hy,List.take_length])
 have hlt:=(List.getElem?_eq_some_iff.mp hi).1;have hyi:ys[i]?=some ys[i]:=List.getElem?_eq_getElem (by omega)
 simp only [gJ,tYes,if_true,wipe1,true_and];refine he i x _ H' _ hi hyi p.1 fun H2 s2=>⟨_,s2 _ _ p.2,?_,(p.1.trans s2).upd hD,?_⟩
 ·rw [List.length_take];omega
 ·rw [uS,cG hyi]
theorem lc_tup2 (ys:List V)(hy:ys.length=xs.length)(hw:∀ R:It->Hp->Prop,R (Itt K a) H->wi σ H0 R)(hl:SqT K H a xs)(hz:xs.length<=sizeLine)
  (he:∀ (i:Nat)(x y:V)(H1:Hp)(R:VK),xs[i]?=some x->ys[i]?=some y->Same H H1->(∀ H2,Same H1 H2->R y H2)->te ((bX σ [j]).set j (some x)) H1 R)
  (hq:∀ D H1,H D=none->Same H H1->H1 D=some (.lst ys)->Q (.ref D) H1):tLc wi (gJ j) tYes te [j] σ H0 Q:=by
 refine hw _ fun D hD=>?_
 refine lc_tup (K:=K) (a:=a) (xs:=xs) (fun i H'=>Same H H'/\H' D=some (.lst (ys.take i))) ⟨Same.new hD,uS⟩ (fun i H' _ p=>p.1.tup hl) (fun i x H' hi p=>?_) fun H' p=>hq D H' hD p.1 (by rw [p.2,<-hy,List.take_length])
 have hlt:=(List.getElem?_eq_some_iff.mp hi).1;have hyi:ys[i]?=some ys[i]:=List.getElem?_eq_getElem (by omega)
 simp only [gJ,tYes,if_true,wipe1,true_and];refine he i x _ H' _ hi hyi p.1 fun H2 s2=>⟨_,s2 _ _ p.2,?_,(p.1.trans s2).upd hD,?_⟩
 ·rw [List.length_take];omega
 ·rw [uS,cG hyi]
end
end L2
end
section
namespace L2
open PySem PySem.Spec PyProof.Rows
def tI (ns:List Int):PyData:=.tuple (ns.map .int)
theorem dpAll_ints {K:W.Frag}{H:Hp}:∀ ns:List Int,DpAll K H (ns.map V.int) (ns.map PyData.int)
 | []=>.nil
 | n::ns=>.cons (.int n) (dpAll_ints ns)
theorem dp_tup {K:W.Frag}{H:Hp}{a:Addr}{ns:List Int}(h:SqT K H a (ns.map V.int)):Dp K H (.ref a) (tI ns):=.tup h (dpAll_ints ns)
theorem canLay_ints:∀ ns:List Int,PyData.canLayAll0 (ns.map PyData.int)=true
 | []=>by simp [PyData.canLayAll0]
 | n::ns=>by simp [PyData.canLayAll0,PyData.canLay0,canLay_ints ns]
theorem depth_ints:∀ ns:List Int,PyData.depthAll (ns.map PyData.int)=0
 | []=>by simp [PyData.depthAll]
 | n::ns=>by simp [PyData.depthAll,PyData.depth,depth_ints ns]
theorem iQ (ns:List Int):SeqAt.shaped (tI ns)=true:=by
 unfold SeqAt.shaped tI;simp [PyData.canLay0,canLay_ints,PyData.depth,depth_ints]
theorem eqvAll_ints:∀ ns ms:List Int,PyData.eqvAll (ns.map PyData.int) (ms.map PyData.int)=decide (ns=ms)
 | [],[]=>by simp [PyData.eqvAll]
 | [],m::ms=>by simp [PyData.eqvAll]
 | n::ns,[]=>by simp [PyData.eqvAll]
 | n::ns,m::ms=>by
  simp only [List.map_cons,PyData.eqvAll,PyData.eqv,eqvAll_ints ns ms,List.cons.injEq,Bool.decide_and];congr 1
theorem eqv_tI (ns ms:List Int):PyData.eqv (tI ns) (tI ms)=decide (ns=ms):=by
 unfold tI;simp only [PyData.eqv,eqvAll_ints]
theorem int_inj:∀ {ns ms:List Int},ns.map V.int=ms.map V.int->ns=ms
 | [],[],_=>rfl
 | [],_::_,h=>by simp at h
 | _::_,[],h=>by simp at h
 | n::ns,m::ms,h=>by
  simp only [List.map_cons,List.cons.injEq,V.int.injEq] at h;rw [h.1,int_inj h.2]
abbrev TupsAt (H:Hp):List (List Int)->List Addr->Prop:=Paired fun ns q=>H q=some (.tup (ns.map V.int))
def eqT (H:Hp)(ms:List Int):Value->Bool
 | .ref q=>match H q with
  | some (.tup ys)=>decide (ys=ms.map V.int)
  | _=>false
 | _=>false
theorem eqT_at {H:Hp}{ms ns:List Int}{q:Addr}(h:H q=some (.tup (ns.map V.int))):eqT H ms (.ref q)=decide (ns=ms):=by
 show(match H q with
  | some (.tup ys)=>decide (ys=ms.map V.int)
  | _=>false)=decide (ns=ms)
 rw [h];exact decide_eq_decide.mpr ⟨int_inj,fun e=>by rw [e]⟩
section
variable {X:Cx}{pins:List (Addr×Obj)}{σ:St}{H:Hp}{s:Shared}
theorem eqAt_tups (I:Inv X pins σ H s)(hu:X.A.units+64 < cLine){ms:List Int}{p:Addr}(hp:SqT X.K H p (ms.map V.int)){A:Around}(hA:A.units<=X.A.units+1){ns:List Int}{q:Addr}(hq:H q=some (.tup (ns.map V.int))) :
  SeqAt.EqAt A s (.ref q) (.ref p) (eqT H ms (.ref q)):=by
 obtain⟨as,r1⟩:=Dp.reads I (tI ns) (.ref q) (.ref q) (dp_tup (SqT.of hq)) rfl;obtain⟨bs,r2⟩:=Dp.reads I (tI ms) (.ref p) (.ref p) (dp_tup hp) rfl;rw [eqT_at hq,<-eqv_tI];refine SeqAt.eqAt_reads _ _ A s _ _ as bs r1 r2 (SeqAt.canLay_of_shaped (iQ _)) (SeqAt.canLay_of_shaped (iQ _)) ?_
 have h1:(tI ns).depth=1:=by unfold tI;simp [PyData.depth,depth_ints]
 have h2:min (tI ns).depth (tI ms).depth<=1:=by rw [h1];exact Nat.min_le_left _ _
 omega
theorem tups_eqAt (I:Inv X pins σ H s)(hu:X.A.units+64 < cLine){ms:List Int}{p:Addr}(hp:SqT X.K H p (ms.map V.int)){A:Around}(hA:A.units<=X.A.units+1):∀ {nss:List (List Int)}{qs:List Addr},TupsAt H nss qs->∀ u∈qs.map Value.ref,SeqAt.EqAt A s u (.ref p) (eqT H ms u)
 | _,_,.nil=>fun u hu=>by cases hu
 | _,_,.cons h t=>fun u hm=>by
  rcases List.mem_cons.mp hm with rfl | hm
  ·exact eqAt_tups I hu hp hA h
  ·exact tups_eqAt I hu hp hA t u hm
theorem any_eqT {ms:List Int}:∀ {nss:List (List Int)}{qs:List Addr},TupsAt H nss qs->(qs.map Value.ref).any (eqT H ms)=decide (ms∈nss)
 | _,_,.nil=>by simp
 | _,_,.cons h t=>by
  rw [List.map_cons,List.any_cons,eqT_at h,any_eqT t];simp only [List.mem_cons,Bool.decide_or];congr 1
  exact decide_eq_decide.mpr ⟨Eq.symm,Eq.symm⟩
end
section
variable {X:Cx}
def rInTs (K:W.Frag)(neg:Bool):R2:=fun x y H Q=>∃ p a ms nss qs,x=.ref p/\y=.ref a/\SqT K H p (ms.map V.int)/\SqL K H a (qs.map V.ref)/\TupsAt H nss qs/\Q (.bl (if neg then !decide (ms∈nss) else decide (ms∈nss))) H
theorem op_notinTs (hu:X.A.units+64 < cLine):OpR X (compareOp .NotIn) (rInTs X.K true):=by
 intro pins s σ H x y v u Q I rx ry h;obtain⟨p,a,ms,nss,qs,rfl,rfl,hp,ha,ht,q⟩:=h;cases rx;cases ry;obtain⟨its,r,pl,hz⟩:=I.list ha;have e:=refs_at r;subst e;refine SeqAt.notIn_listAt (eqT H ms) pl.isList (fun w hw=>tups_eqAt I hu hp (Nat.le_refl _) ht w (by simpa using hw)) ⟨.bl _,H,I,rfl,?_⟩
 rw [List.any_toArray,any_eqT ht];exact q
def rIndexTs (K:W.Frag):V->List V->Hp->VK->Prop:=fun x xs H Q=>∃ a p ms nss qs j,x=.ref a/\xs=[.ref p]/\SqT K H p (ms.map V.int)/\SqL K H a (qs.map V.ref)/\TupsAt H nss qs/\nss[j]?=some ms/\(∀ m,m < j->nss[m]?≠some ms)/\Q (.int (j:Nat)) H
theorem TupsAt.get {H:Hp}:∀ {nss:List (List Int)}{qs:List Addr}{i:Nat}{q:Addr},TupsAt H nss qs->qs[i]?=some q->∃ ns,nss[i]?=some ns/\H q=some (.tup (ns.map V.int))
 | _,_,_,_,.nil,e=>by simp at e
 | _,_,0,_,.cons h _,e=>by simp at e;subst e;exact⟨_,rfl,h⟩
 | _,_,i+1,q,.cons _ t,e=>by
  obtain⟨u,h1,h2⟩:=TupsAt.get (i:=i) (q:=q) t (by simpa using e)
  exact⟨u,by simpa using h1,h2⟩
theorem mt_indexTs (hu:X.A.units+64 < cLine):MtR X "list.index" (rIndexTs X.K):=by
 intro pins s σ H x xs v us Q I rx rxs h;obtain⟨a,p,ms,nss,qs,j,rfl,rfl,hp,hs,ht,hj,hno,q⟩:=h;cases rx;cases rxs with
 | cons ry rt =>
  rename_i uy ut
  cases rt;cases ry;obtain⟨its,rv,⟨⟨cls,dd,data,sl⟩,n,ho,hc,hdn,hd⟩,hlen⟩:=I.list hs;simp only at hc hd
  subst hc hd;have e:=refs_at rv;subst e;have hlq:nss.length=qs.length:=Paired.length ht
  have hjl:j < qs.length:=by rw [<-hlq];exact(List.getElem?_eq_some_iff.mp hj).1
  have hsl:=sizeLine_eq;rw [List.length_map] at hlen
  have at_:∀ (m:Nat)(hm:m < (qs.map Value.ref).toArray.size),∃ ns,nss[m]?=some ns/\eqT H ms (qs.map Value.ref).toArray[m]=decide (ns=ms):=by
   intro m hm;have hml:m < qs.length:=by simpa using hm
   obtain⟨ns,h1,h2⟩:=TupsAt.get ht (List.getElem?_eq_getElem hml);refine⟨ns,h1,?_⟩
   have e1:(qs.map Value.ref).toArray[m]=.ref qs[m]:=by simp
   rw [e1];exact eqT_at h2
  have hj2:j < (qs.map Value.ref).toArray.size:=by simpa using hjl
  refine call_meets PySem.F.slot_list_index ⟨_,ho,rfl⟩ PySem.F.entry_list_index (PySem.F.args_list_index_2 _ _)
   (SeqAt.list_indexAt a (qs.map Value.ref).toArray n dd sl (.ref p) (eqT H ms) j hj2 (by omega) ?_ ?_) ⟨ho,fun u' hu'=>tups_eqAt I hu hp (Nat.le_refl _) ht u' (by simpa using hu'),?_⟩
  ·obtain⟨ns,h1,h2⟩:=at_ j hj2;rw [hj] at h1;rw [h2,Option.some.inj h1];exact decide_eq_true rfl
  ·intro m hm hmj;obtain⟨ns,h1,h2⟩:=at_ m hm;rw [h2];exact decide_eq_false fun z=>hno m hmj (by rw [h1,z])
  ·exact⟨.int (j:Nat),H,I.tok _,⟨_,rfl⟩,q⟩
theorem meets_extendT (l b:Addr)(xs ys:Array Value)(n m:Nat)(dd:Option Addr)(sl:Array (Option Value))(hz:xs.size+ys.size<=sizeLine) :
  Meets (Builtin.«list.extend» ⟨[.ref l,.ref b],[]⟩) (fun _ R s=>s.heap.get? l=some {cls:=.type "list",data:=.seq xs n}/\s.heap.get? b=some {cls:=.type "tuple",dict:=dd,data:=.seq ys m,slots:=sl} /\
   R (.ok (.ret Value.none)) {s with heap:=s.heap.update l (Obj.mapSeq fun x=>x++ys)}) :=
 .of_wp fun prog w A R s h=>by
  obtain⟨hp,g,d,tk,os⟩:=s;obtain⟨hl,hb,h⟩:=h;have hs0:¬(!xs.isEmpty&&Builtin.List.listTooLong (xs.size+ys.size))=true:=PyProof.Rows.extend_door hz
  have hz1:xs.size<=sizeLine:=by omega
  have hz2:(xs++ys).size<=sizeLine+1:=by rw [Array.size_append];omega
  have f2:=AutoSeq1.sub_tuple_tuple;have f4:=AutoSeq1.sub_tuple_list;wp_walk using (wpAny_updateSeq hl rfl (hz:=hz1) (_hz':=hz2)),AutoSeq1.wpAny_loadPart' hl,AutoSeq1.wpAny_loadPart' hb
  exact⟨_,rfl,h⟩
def rExtendT (K:W.Frag):V->List V->Hp->VK->Prop:=fun x vs H Q=>∃ l b xs zs,x=.ref l/\vs=[.ref b]/\H l=some (.lst xs)/\H b=some (.tup zs)/\xs.length+zs.length<=sizeLine/\Q .non (upd H l (.lst (xs++zs)))
theorem mt_extendT:MtM X "list.extend" (rExtendT X.K):=by
 intro pins s σ H x vs v us Q I rx rv h;obtain⟨l,b,xs,zs,rfl,rfl,hH,hB,hz,q⟩:=h;cases rx;obtain⟨u,rfl,ru⟩:=rv.one;cases ru;obtain⟨z,its,n,r,hl,e⟩:=I.lstM hH;obtain⟨z2,its2,r2,⟨cls,dd,data,sl⟩,e2,c2,⟨n2,d2⟩,_⟩:=I.hok b _ hB;simp only at c2 d2
 subst c2 d2;have hl2:=r2.length;have hsz:its.toArray.size+its2.toArray.size<=sizeLine:=by rw [List.size_toArray,List.size_toArray];omega
 refine call_meets F.slot_list_extend ⟨_,e,rfl⟩ F.entry_list_extend (F.args_list_extend_2 _ _) (meets_extendT l b its.toArray its2.toArray n n2 dd sl hsz) ⟨e,e2,?_⟩
 refine⟨.non,_,I.lset (its':=its++its2) hH e (by simp) (r.append r2) ?_,rfl,q⟩
 rw [List.length_append];omega
def rSortedK:List V->Hp->VK->Prop:=fun vs H Q=>∃ (a:Addr)(kvs:List (Key×V))(ns:List Int),vs=[V.ref a]/\H a=some (.dK kvs)/\kvs.map (·.1)=ns.map Sum.inl/\ns.length < 64 /\
 ∀ (ns':List Int)(p:Addr),ns'.Perm ns->ns'.Pairwise (· <= ·)->H p=none->Q (.ref p) (upd H p (.lst (ns'.map V.int)))
theorem ints_by:∀ {us:List Value}{ns:List Int},us.length=ns.length->(∀ (j:Nat)(v:Value),us[j]?=some v->∃ n,ns[j]?=some n/\∃ t,v=Value.int n t)->IntsAre us ns
 | [],[],_,_=>.nil
 | [],_::_,h,_=>by simp at h
 | _::_,[],h,_=>by simp at h
 | u::us,n::ns,h,k=>by
  obtain⟨n',e,t,rfl⟩:=k 0 u rfl;have e:n=n':=Option.some.inj e
  subst e;exact .cons n t (ints_by (by simpa using h) fun j v e=>by simpa using k (j+1) v (by simpa using e))
theorem keys_at {kvs:List (Key×V)}{vs:List (Key×Value)}(r:KV kvs vs):∀ {ns:List Int},kvs.map (·.1)=ns.map Sum.inl->∀ (j:Nat)(k:Key)(x:Value),vs[j]?=some (k,x)->∃ n,ns[j]?=some n/\k=Sum.inl n:=by
 induction r with
 | nil=>intro ns hk j k x e;simp at e
 | cons h t ih =>
  intro ns hk j k x e;cases ns with
  | nil=>simp at hk
  | cons n ns =>
   simp only [List.map_cons,List.cons.injEq] at hk;cases j with
   | zero =>
    simp only [List.getElem?_cons_zero,Option.some.injEq] at e;refine⟨n,rfl,?_⟩
    rw [<-hk.1,h.1,e]
   | succ j=>exact ih hk.2 j k x (by simpa using e)
theorem cr_sortedK (hc:X.calm=true):CallR X (.builtin "sorted") rSortedK:=by
 intro pins s σ H vs us Q I r h;obtain⟨a,kvs,ns,rfl,ha,hk,h64,q⟩:=h;rw [Vals.ref1 r];obtain⟨z,hy,vs,rk,dd⟩:=(show ObjOk X.prog X.w H s.heap a (.dK kvs) from I.hok a _ ha)
 obtain⟨ep,hat⟩:=dd.dictAt
 have hlen:vs.length=ns.length:=by
  have h1:=Paired.length rk;have h2:=congrArg List.length hk;rw [List.length_map,List.length_map] at h2;omega
 refine Calls.call_function_entry kind_sorted plain_sorted entry_sorted (args_sorted1 _) ?_
 unfold Builtin.«sorted»;refine wpAny_bind (m:=checkCount "sorted" 1 1 _) (wpAny_pure ?_)
 refine wpAny_bind (W.kdu_collect (A:=X.A.in1) (W.kdl_dict (knd:=aS X.prog X.w) (kvs:=vs) (ep:=ep) hy) (I.ok.hd hc) hat (by rw [hlen];exact small64 h64) fun h' tk acc keep hacc=>?_)
 have hl:acc.toList.length=ns.length:=by rw [Array.length_toList,hacc.1,hlen]
 refine wpAny_bind (wpAny_newList ?_ (by rw [hl];exact small64 h64))
 have hI:IntsAre acc.toList ns:=by
  refine ints_by hl fun j v e=>?_
  rw [Array.getElem?_toList] at e;obtain⟨k,x,e1,e2⟩:=hacc.2 j v e;obtain⟨n,e3,e4⟩:=keys_at rk hk _ _ _ e1;subst e4;refine⟨n,e3,?_⟩
  cases v with
  | int i t =>
   have e2:(i==n)=true:=e2
   rw [eq_of_beq e2];exact⟨t,rfl⟩
  | _=>exact absurd (show false=true from e2) Bool.false_ne_true
 have ho:(h'.push {cls:=.type "list",data:=.seq acc.toList.toArray}).get? h'.objs.size=some (seqObj "list" acc.toList.toArray 0):=Heap.get?_push_size _ rfl
 refine wpAny_bind (wpAny_holding (wpAny_call_entry slot_list_sort ⟨_,ho,rfl⟩ entry_list_sort (list_sort_tree ho hI (by rw [hl];exact h64) fun out ns' h1 h2 h3=>⟨_,rfl,?_⟩) (args_list_sort _)))
 refine wpAny_pure ⟨_,rfl,?_⟩
 obtain⟨ep',he'⟩:=sortedHeap_at (vs:=acc.toList) (out:=out) ho
 have hz2:(ns'.map V.int).length<=sizeLine:=by rw [List.length_map,h2.length_eq];exact small64 h64
 have I1:Inv X pins σ H {s with heap:=h',toks:=tk}:=I.kept keep
 have old:∀ b u,h'.get? b=some u->(sortedHeap (h'.push {cls:=.type "list",data:=.seq acc.toList.toArray}) h'.objs.size acc.toList out).get? b=some u:=fun b u hb=>by
  have hlt:=Heap.lt_size hb;rw [sortedHeap_old (Nat.ne_of_lt hlt) (by rw [Heap.size_push];exact Nat.lt_succ_of_lt hlt)]
  exact Heap.get?_push_of_some _ hb
 exact⟨.ref _,upd H h'.objs.size (.lst (ns'.map V.int)),I1.laid (t':=tk) old (Nat.le_refl _) ⟨hz2,out.toList,ep',vals_of_ints h1,he'⟩,rfl,q ns' _ h2 h3 (I1.hok.fresh (Nat.le_refl _))⟩
end
end L2
end
section
namespace L2
open PySem PySem.Spec PyProof.Rows
section
variable {prog:Program}{w:World}{A:Around}{E:Value->Shared->Prop}{s:Shared}
theorem getItem_tuple_all {t sl:Addr}{items:Array Value}{vl vu:Value}{lo hi:Option Int}{Q:Value->Shared->Prop}(ht:IsTup s.heap t items)(hs:s.heap.IsSliceOf sl vl vu .none)(pl:IsPart vl lo)(pu:IsPart vu hi)
  (h1:HT.sIx items.size 0 lo=0)(h2:HT.sIx items.size items.size hi=items.size)(h:Q (.ref t) s):wpAny (model prog w) A (getItem (.ref t) (.ref sl)) Q E s:=by
 obtain⟨os,hos,hcs,hds⟩:=id hs;have hTs:s.TypeIs (.ref sl) "slice" := ⟨os,hos,hcs⟩
 unfold getItem
 try with_reducible refine wpAny_holding ?_
 first | refine wpAny_bind (wpAny_pure ?_) | skip
 refine wpAny_bind (wpAny_sequenceKey ht.typeIs (by decide) ?_)
 refine wpAny_bind (wpAny_callSpecial?_slot (name:=Str.ofString "__getitem__") ht.typeIs PyProof.Rows.slot_tuple_getitem
  (wpAny_call_entry PyProof.Rows.slot_tuple_getitem ht.typeIs entry_tuple_getitem ?_ (args_tuple_getitem _ _)))
 show wpAny _ _ (Builtin.Tuple.tupleItemsOf (.ref t) >>= _) _ _ s
 refine wpAny_bind (tupleItemsOf_ ht ?_)
 refine wpAny_bind (wpAny_typeOf hTs ?_)
 rw [if_pos (by decide)];refine wpAny_bind (HT.sliceApplied_gen hs pl pu ?_)
 rw [h1,h2];show wpAny _ _ (if ((((0:Nat):Int)==0&&(1:Int)==1&&(items.size - 0)==items.size)=true) then _ else _) _ _ s
 rw [if_pos (by simp)]
 have hex:∀ {Q:Bool->Shared->Prop}{E:Value->Shared->Prop}{A:Around},Q true s->wpAny (model prog w) A (Builtin.Tuple.tupleIsExact (.ref t)) Q E s:=fun {Q E A} q=>by
  unfold Builtin.Tuple.tupleIsExact;refine wpAny_bind (wpAny_typeOf ht.typeIs ?_)
  exact wpAny_pure q
 refine wpAny_bind (hex ?_)
 rw [if_pos rfl];exact wpAny_bind (wpAny_rule (wpAny_pure ⟨_,rfl,wpAny_pure h⟩))
end
section
variable {X:Cx}
def rSlTA (K:W.Frag):V->Option Int->Option Int->Hp->VK->Prop:=fun x lo hi H Q=>∃ a xs,x=.ref a/\SqT K H a xs /\
 ((HT.sIx xs.length 0 lo=0/\HT.sIx xs.length xs.length hi=xs.length)->Q (.ref a) H)/\(¬ (HT.sIx xs.length 0 lo=0/\HT.sIx xs.length xs.length hi=xs.length)->∀ p,H p=none->Q (.ref p) (upd H p (.tup (kC xs lo hi))))
theorem sl_tupA:SlR X (rSlTA X.K):=by
 intro pins s σ H x v vl vu lo hi sl Q I rx hs pl pu h;obtain⟨a,xs,rfl,hx,q1,q2⟩:=h;by_cases hw:HT.sIx xs.length 0 lo=0/\HT.sIx xs.length xs.length hi=xs.length
 ·cases rx;obtain⟨its,r,ht,hz⟩:=I.tuple hx;have hlen:its.toArray.size=xs.length:=by rw [List.size_toArray];exact r.length.symm
  refine⟨"tuple",_,PyProof.Rows.slot_tuple_getitem.lookup,ht.typeIs,?_⟩
  exact getItem_tuple_all ht hs pl pu (by rw [hlen];exact hw.1) (by rw [hlen];exact hw.2) ⟨.ref a,H,I,rfl,q1 hw⟩
 ·exact sl_tup pins s σ H _ v vl vu lo hi sl Q I rx hs pl pu ⟨a,xs,rfl,hx,hw,q2 hw⟩
def iSeq (K:W.Frag)(tl:TE):TI:=fun σ H R=>tl σ H fun x H1=>∃ a,x=.ref a/\(((∃ xs,SqL K H1 a xs)/\R (Itl K a) H1)\/((∃ xs,SqT K H1 a xs)/\R (Itt K a) H1))
theorem pi_seq {tg l:Expr}{tl:TE}(hl:PE X l tl):PI X tg l (iSeq X.K tl):=by
 intro pins s σ H R I h;refine thn (hl pins s σ H _ I h) fun v s1 ⟨x,H1,I1,r1,q1⟩=>?_
 obtain⟨a,e,q⟩:=q1;subst e;cases r1
 have fp:∀ b∈[s1.heap.objs.size],FpOk X pins H1 b:=fun b hb=>by
  rw [List.mem_singleton.mp hb];exact I1.fpOk (Nat.le_refl _) (I1.hok.fresh (Nat.le_refl _))
 rcases q with ⟨⟨xs,hq⟩,q⟩ | ⟨⟨xs,hq⟩,q⟩
 ·obtain⟨its,rv,p,hz⟩:=I1.list hq;refine wpAny_pyIter_list p.isList ?_
  exact⟨_,_,_,_,H1,rfl,I1.kept (t':=s1.toks) fun b o e=>Heap.get?_push_of_some _ e,turn_list a _,⟨_,Heap.get?_push_size _ rfl,rfl,rfl⟩,fp,q⟩
 ·obtain⟨its,rv,p,hz⟩:=I1.tuple hq;refine wpAny_pyIter_tuple (show s1.heap.IsTuple a its.toArray from p) ?_
  exact⟨_,_,_,_,H1,rfl,I1.kept (t':=s1.toks) fun b o e=>Heap.get?_push_of_some _ e,turn_tuple a _,⟨_,Heap.get?_push_size _ rfl,rfl,rfl⟩,fp,q⟩
theorem code_indexT {prog:Program}{w:World}{A:Around}{E:Value->Shared->Prop}{s:Shared}{P:Fin->Shared->Prop}{l:Addr}{xs:Array Value}{x:Value}(e:Value->Bool){j:Nat}(ht:IsTup s.heap l xs)(hj:j < xs.size)(hit:e xs[j]=true)(hno:∀ m (hm:m < xs.size),m < j->e xs[m]=false)
  (he:∀ y,y∈xs->SeqAt.EqAt A s y x (e y))(h:P (.done (.ret (.int j s.toks))) {s with toks:=s.toks+1}):wpAny (model prog w) A (Builtin.«tuple.index» ⟨[.ref l,x],[]⟩) P E s:=by
 unfold Builtin.«tuple.index»;refine wpAny_bind (m:=selfAndSome "tuple.index" "index" 1 3 _) (wpAny_pure ?_)
 refine wpAny_bind (tupleItemsOf_ ht ?_)
 refine wpAny_bind (wpAny_pure ?_)
 refine wpAny_bind (wpAny_pure ?_)
 dsimp only;rw [Std.Legacy.Range.forIn_eq_forIn_range'];have hsz:([:min xs.size xs.size]:Std.Legacy.Range).size=xs.size:=by simp [Std.Legacy.Range.size]
 rw [hsz];refine wpAny_bind (wpAny_forIn_list _ (fun rest b s'=>b.1=none/\s'=s/\∃ i,rest=List.range' i (xs.size - i)/\i<=j) _ ?_ ?_ _ _ ⟨rfl,rfl,0,rfl,Nat.zero_le _⟩)
 ·rintro m rest b s' ⟨hb,rfl,i,hr,hij⟩
  have hne:xs.size - i=(xs.size - (i+1))+1:=by omega
  rw [hne,List.range'_succ] at hr;obtain⟨rfl,hr⟩:=List.cons.inj hr;have hm:m < xs.size:=by omega
  rw [show xs[m]?=some xs[m] from Array.getElem?_eq_getElem hm]
  refine wpAny_bind (he _ (Array.getElem_mem hm) prog w _ _ ?_)
  by_cases ej:m=j
  ·subst ej;rw [hit];show wpAny _ _ (if true=true then _ else _) _ _ _
   rw [if_pos rfl];refine wpAny_bind (wpAny_bind (wpAny_mkInt (wpAny_pure (wpAny_pure ?_))))
   exact wpAny_pure h
  ·rw [hno m hm (by omega)];show wpAny _ _ (if false=true then _ else _) _ _ _
   rw [if_neg Bool.false_ne_true];exact wpAny_pure ⟨rfl,rfl,m+1,hr,by omega⟩
 ·rintro ⟨b1,b2⟩ s' ⟨hb,rfl,i,hr,hij⟩
  have hr:=congrArg List.length hr;rw [List.length_range',List.length_nil] at hr;omega
def tBMT (r:V->List V->Hp->VK->Prop)(to:TE)(t:TA):TE:=fun σ H Q=>to σ H fun x H1=>∃ p ys,x=.ref p/\H1 p=some (.tup ys)/\t σ H1 fun xs H2=>r x xs H2 Q
theorem pe_bmT {o e:Expr}{es:List Expr}{to:TE}{t:TA}{name:Str}{apos cpos:Pos}{id:String}{r:V->List V->Hp->VK->Prop}(slot:Slot "tuple" name id)(hty:typeOf (.builtin id)=pure (.type "method_descriptor"))(hm:MtR X id r)(ho:PE X o to)(ha:PA X (e::es) t)
  (hbase:attributeBase o name X.env (eval o X.env)=eval o X.env:=by rfl)
  (hfew:((backTo cpos (starEach (e::es) X.env)).all (fun x=>!x.1)&&(backToKw cpos (keywordEach [] X.env)).all (fun x=>x.1.isSome)
   && decide ((e::es).length+([]:List Keyword).length+(if ([]:List Keyword).isEmpty then 0 else 1) < 30))=true:=by rfl)
  (hline:(apos.endLine==cpos.line)=true:=by rfl)(hs:starEach (e::es) X.env=(false,eval e X.env)::starEach es X.env:=by rfl)(hplain:(backTo cpos (starEach es X.env)).any (·.1)=false:=by rfl) :
  PE X (.Call (.Attribute o name apos) (e::es) [] cpos) (tBMT r to t):=by
 intro pins s σ H Q I h;refine wpAny_Call_method_late hbase hfew hline rfl (thn (ho pins s σ H _ I h) fun v s1 ⟨x,H1,I1,r1,p,ys,ex,hp,q1⟩=>?_)
 subst ex;cases r1;obtain⟨_,its,_,od,g1,g2,_,g3⟩:=(show ObjOk X.prog X.w H1 s1.heap p (.tup ys) from I1.hok p _ hp)
 refine⟨"tuple",id,PySem.F.plainAttrs_tuple,slot,hty,⟨od,g1,g2⟩,fun a e=>?_,?_⟩
 ·cases e;exact⟨od,g1,g3⟩
 ·have hA:=ha cpos pins s1 σ H1 _ I1 q1;rw [hs] at hA ⊢;refine Calls.callWith_builtin (by show(false||(backTo cpos (starEach es X.env)).any (·.1))=false;rw [hplain] <;> rfl) (Calls.evalArgs_plain ?_)
  exact thn hA fun us s2 ⟨vs,H2,I2,r2,q2⟩=>hm pins s2 σ H2 (.ref p) vs _ us Q I2 rfl r2 q2
def rIndexT (K:W.Frag):V->List V->Hp->VK->Prop:=fun x xs H Q=>∃ (a:Addr)(ns:List Int) (n:Int)(j:Nat),x=V.ref a/\xs=[.int n]/\SqT K H a (ns.map V.int)/\ns[j]?=some n/\(∀ m,m < j->ns[m]?≠some n)/\Q (.int (j:Nat)) H
theorem mt_indexT:MtR X "tuple.index" (rIndexT X.K):=by
 intro pins s σ H x xs v us Q I rx rxs h;obtain⟨a,ns,n,j,rfl,rfl,hs,hj,hno,q⟩:=h;cases rx;obtain⟨u,rfl,ru⟩:=rxs.one;obtain⟨its,rv,ht,hz⟩:=I.tuple hs;have fl:(ns.map V.int).all flatV=true:=by simp [flatV]
 have hat:∀ m (hm:m < its.toArray.size),∃ k,ns[m]?=some k/\eqU (.int n) its.toArray[m]=(k==n):=fun m hm=>by
  have hl:m < ns.length:=by
   have h1:=rv.length;have h2:m < its.length:=by simpa using hm
   rw [List.length_map] at h1;omega
  refine⟨ns[m],List.getElem?_eq_getElem hl,?_⟩
  obtain⟨u2,hu2,r2⟩:=rv.get (i:=m) (x:=.int ns[m]) (by rw [List.getElem?_map,List.getElem?_eq_getElem hl];rfl)
  have e1:its.toArray[m]=u2:=by
   obtain⟨_,e⟩:=List.getElem?_eq_some_iff.mp hu2;simpa using e
  rw [e1,eqU_of r2 rfl];rfl
 have hjs:j < its.toArray.size:=by
  have h1:=rv.length;have h2:=(List.getElem?_eq_some_iff.mp hj).1;rw [List.length_map] at h1;rw [List.size_toArray];omega
 refine wpAny_call_entry PySem.F.slot_tuple_index ht.typeIs PySem.F.entry_tuple_index (code_indexT (eqU (.int n)) ht hjs ?_ ?_ (fun y hy=>mem_eqAt ru rfl rv fl y (by simpa using hy)) ⟨_,rfl,?_⟩) (PySem.F.args_tuple_index_2 _ _)
 ·obtain⟨k,h1,h2⟩:=hat j hjs;rw [hj] at h1;rw [h2,<-Option.some.inj h1];exact beq_self_eq_true n
 ·intro m hm hmj;obtain⟨k,h1,h2⟩:=hat m hm;rw [h2];exact beq_eq_false_iff_ne.mpr fun z=>hno m hmj (by rw [h1,z])
 ·exact⟨.int (j:Nat),H,I.tok _,⟨_,rfl⟩,q⟩
end
end L2
end
section
namespace OlEnum
open PySem PySem.Spec PyProof.Rows
theorem typeCall_kw (a v:Value):checkTypeCall "enumerate" ⟨[a],[("start",v)]⟩=pure ():=by kernel_rfl
theorem newCall_kw (a v:Value):checkBuiltinCall "enumerate.__new__" ⟨[.type "enumerate",a],[("start",v)]⟩=pure ():=by kernel_rfl
theorem args_init_kw (a b v:Value):argsOk "object.__init__" ⟨[a,b],[("start",v)]⟩:=by
 first | kernel_rfl | (unfold argsOk;kernel_rfl)
section
variable {prog:Program}{w:World}{A:Around}{E:Value->Shared->Prop}{s:Shared}
theorem callType_kw {T newId initId:String}{Bn Bi:Builtin}{args:List Value}{kw:List (Str×Value)}{S:PySem.Spec}{Q Q₁:Value->Shared->Prop}(ft:TypeCalled T newId initId)
  (hct:checkTypeCall T ⟨args,kw⟩=pure ())(hcn:checkBuiltinCall newId ⟨.type T::args,kw⟩=pure ())(eN:entryFor table newId=some Bn)(eI:entryFor table initId=some Bi)(g:Meets (Bn ⟨.type T::args,kw⟩) S)
  (h:S A.in1 (wants Q₁ E) s)
  (hnext:∀ obj s₁,Q₁ obj s₁->s₁.TypeIs obj T/\argsOk initId ⟨obj::args,kw⟩/\∃ Si,Meets (Bi ⟨obj::args,kw⟩) Si/\Si A.in1 (wants (fun r s₂=>r=.none/\Q obj s₂) E) s₁) :
  wpAny (model prog w) A (call (.type T) args kw) Q E s:=by
 obtain⟨cc,tt,hm0⟩:=ft.mro;have hm1:=ft.made;have hm2:=ft.sub;refine wpAny_call (codeAny_of_tree ?_)
 show wpAny _ _ (callAny (.type T) _) _ _ _
 refine wpAny_pure ⟨Code.quiet_builtin _ (by decide +kernel),codeAny_builtin F.entry_type_call ?_⟩
 rw [Around.under_plain (weight_type_call_type T args kw) (units_type_call_type T args kw)];have h1:=ft.notType;have h2:=ft.canCreate
 repeat (any_goals (first | assumption | wp_step))
 refine codeAny_mono (codeAny_call_builtin ft.plain eN (wpAny_of_eq hcn (g prog w A.in1 _ s h))) fun r s₁ hr=>?_
 cases r with
 | error e=>exact hr
 | ok fl =>
  cases fl with
  | ret obj =>
   obtain⟨hT,hok,Si,gi,hsi⟩:=hnext _ _ hr;have hl2:=ft.init.lookup;have hb2:=ft.init.bind obj
   repeat (any_goals (first | assumption | wp_step))
   refine codeAny_mono (codeAny_call_builtin ft.init.plain eI (ft.init.check _ _ _ _ _ _ _ _ hT hok (gi prog w A.in1 _ s₁ hsi))) fun r₂ s₂ hr₂=>?_
   cases r₂ with
   | error e=>exact hr₂
   | ok fl₂ =>
    cases fl₂ with
    | ret r =>
     obtain⟨rfl,hq⟩:=hr₂
     repeat (any_goals (first | assumption | wp_step))
    | _=>exact hr₂.elim
  | _=>exact hr.elim
theorem object_init_kw {T newId:String}{self a:Value}{kw:List (Str×Value)}(hl:typeLookup (.type T) "__init__" = pure (some (.builtin "object.__init__")))
  (hm:Bind.madeBy (.type T)=pure (some newId))(hne:(some newId != some "object.__new__")=true) :
  Meets (Builtin.«object.__init__» ⟨[self,a],kw⟩) (fun _ R s=>s.TypeIs self T/\R (.ok (.ret .none)) s):=by
 refine Meets.of_wp fun prog w A R s hs=>?_
 obtain⟨hT,hq⟩:=hs
 repeat (any_goals (first | assumption | wp_step))
 exact⟨_,rfl,hq⟩
theorem meets_new1 (l:Addr)(items:Array Value)(n:Nat)(dd:Option Addr)(sl:Array (Option Value))(t:Tok) :
  Meets (Builtin.«enumerate.__new__» ⟨[.type "enumerate",.ref l],[("start",.int 1 t)]⟩) (fun _ R s=>s.heap.get? l=some {cls:=.type "list",dict:=dd,data:=.seq items n,slots:=sl} /\
   R (.ok (.ret (.ref (s.heap.objs.size+1))))
    {s with heap:=(s.heap.push {cls:=.type "list_iterator",data:=.fields #[.ref l,.int 0 0]}).push {cls:=.type "enumerate",data:=.fields #[.none,.bool false,.ref s.heap.objs.size,rawInt 1,.none,.none]}}) :=
 .of_wp fun prog w A R s h=>by
  obtain⟨hp,g,d,tk,os⟩:=s;obtain⟨hl,h⟩:=h;have hsub:=sub_enumerate;have hL:Heap.IsList (Shared.heap ⟨hp,g,d,tk,os⟩) l items:=⟨_,hl,rfl,n,rfl⟩
  wp_walk using AutoSeq1.wpAny_loadPart' hl
  refine wpAny_stack_any fun st=>wpAny_pure ?_
  have f1:=AutoSeq1.idx_int;have hz:(hp.push {cls:=.type "list_iterator",data:=.fields #[.ref l,.int 0 0]}).objs.size=hp.objs.size+1:=Heap.size_push ..
  split
  ·rename_i c _ _ _ _ _
   cases (c==Value.type "enumerate")
   ·wp_walk using AutoSeq1.wpAny_loadPart' hl,wpAny_pyIter_list hL
    exact⟨_,rfl,by rw [hz];exact h⟩
   ·wp_walk using AutoSeq1.wpAny_loadPart' hl,wpAny_pyIter_list hL
    exact⟨_,rfl,by rw [hz];exact h⟩
  ·wp_walk using AutoSeq1.wpAny_loadPart' hl,wpAny_pyIter_list hL
   exact⟨_,rfl,by rw [hz];exact h⟩
theorem call_enum1 {l:Addr}{items:Array Value}{t:Tok}{Q:Value->Shared->Prop}(hL:s.heap.IsList l items)
  (h:∀ h',IsEnum h' (s.heap.objs.size+1) s.heap.objs.size 1 .none->h'.IsListIter s.heap.objs.size l 0->(∀ b o,s.heap.get? b=some o->h'.get? b=some o)->Q (.ref (s.heap.objs.size+1)) {s with heap:=h'}) :
  wpAny (model prog w) A (call (.type "enumerate") [.ref l] [("start",.int 1 t)]) Q E s:=by
 obtain⟨⟨c,dct,dt,sl⟩,hl,hc,n,hd⟩:=hL;simp only at hc hd
 subst hc hd
 refine callType_kw (Q₁:=fun obj s₁=>s₁.TypeIs obj "enumerate" /\ Q obj s₁) F.called_enumerate (typeCall_kw _ _) (newCall_kw _ _) F.entry_enumerate_new F.entry_object_init (meets_new1 l items n dct sl t) ⟨hl,?_⟩
  fun obj _ hq=>⟨hq.1,args_init_kw obj _ _,_,object_init_kw F.called_enumerate.init.lookup F.called_enumerate.made (by decide),hq.1,rfl,hq.2⟩
 have hz:(s.heap.push {cls:=.type "list_iterator",data:=.fields #[.ref l,.int 0 0]}).objs.size=s.heap.objs.size+1:=Heap.size_push ..
 have he:IsEnum ((s.heap.push {cls:=.type "list_iterator",data:=.fields #[.ref l,.int 0 0]}).push
   {cls:=.type "enumerate",data:=.fields #[.none,.bool false,.ref s.heap.objs.size,rawInt 1,.none,.none]}) (s.heap.objs.size+1) s.heap.objs.size 1 .none:=by
  rw [<-hz];exact Heap.get?_push_size _ rfl
 exact⟨⟨_,he,rfl⟩,h _ he ⟨_,Heap.get?_push_of_some _ (Heap.get?_push_size _ rfl),rfl,rfl⟩ fun b o x=>Heap.get?_push_of_some _ (Heap.get?_push_of_some _ x)⟩
end
section
variable {M:Model}{A:Around}{E:Value->Shared->Prop}{s:Shared}{env:Env}
theorem callWith_ty_kw {pos:Pos}{T:String}{e:Expr}{kws:List Keyword}{Q:Value->Shared->Prop}
  (h:wpAny M A (spliced (backTo pos (starEach [e] env))) (fun vs s₁=>wpAny M A (evalAll ((backToKw pos (keywordEach kws env)).map (·.2)))
   (fun kvs s₂=>wpAny M A (call (.type T) vs (((backToKw pos (keywordEach kws env)).filterMap (·.1)).zip kvs)) Q E s₂) E s₁) E s)
  (he:backTo pos (starEach [e] env)=(false,eval e env)::backTo pos (starEach [] env):=by rfl)
  (hplain:(backTo pos (starEach [e] env)).any (·.1)=false:=by rfl)
  (hall:(backToKw pos (keywordEach kws env)).all (·.1.isSome)=true:=by rfl)
  (hkw:(backToKw pos (keywordEach kws env)).any (·.1.isNone)=false:=by rfl) :
  wpAny M A (callWith pos (.type T) [] (backTo pos (starEach [e] env)) (backToKw pos (keywordEach kws env))) Q E s:=by
 have ha:wpAny M A (evalArgs (.type T) true (backTo pos (starEach [e] env)) (backToKw pos (keywordEach kws env))) (fun a s₁=>wpAny M A (call (.type T) ([]++a.pos) a.kw) Q E s₁) E s:=by
  rw [he] at h ⊢;exact evalArgs_kwB hall h
 unfold callWith;refine wpAny_bind (wpAny_holding (wpAny_mono ha (fun a s₁ h₁=>wpAny_bind (wpAny_standAt ?_)) fun _ _ x=>x))
 simp only [hplain,hkw,Bool.or_false];exact wpAny_bind (wpAny_pure (wpAny_bind (wpAny_mono h₁ (fun r s₂ hr=>wpAny_bind (wpAny_holding (wpAny_point (wpAny_pure hr)))) fun _ _ x=>x)))
end
section
variable {prog:Program}{w:World}{A:Around}{E:Value->Shared->Prop}{s:Shared}
theorem next_itemC {e it l:Addr}{i:Nat}{c:Int}{items:Array Value}{x od:Value}{Q:Value->Shared->Prop}
  (he:IsEnum s.heap e it c od)(hti:s.heap.IsListIter it l i)(hl:s.heap.IsList l items)(hx:items[i]?=some x)(hei:e≠it)
  (hQ:∀ h',IsEnumOut h' e it (c+1) x s.heap.objs.size->h'.IsListIter it l (i+1) ->
   h'.get? s.heap.objs.size=some {cls:=.type "tuple",data:=.seq #[.int c s.toks,x]}->h'.objs.size=s.heap.objs.size+1 ->
   (∀ b o,b≠e->b≠it->s.heap.get? b=some o->h'.get? b=some o)->Q (.ref s.heap.objs.size) {s with heap:=h',toks:=s.toks+1}) :
  wpAny (model prog w) A (Builtin.«enumerate.__next__» ⟨[.ref e],[]⟩) (fun fin s'=>∃ v,fin=.done (.ret v)/\Q v s') E s:=by
 obtain⟨hq0,gg,dd,tk,oo⟩:=s;show wpAny _ _ (field (.ref e) 2 >>= _) _ _ _
 refine wpAny_bind (wpAny_field he rfl (x:=.ref it) rfl ?_)
 refine wpAny_bind (wpAny_nextOf_list_item hti hl hx fun k1 ku1 ks1=>?_)
 replace ks1:Heap.SameBut it hq0 k1:=ks1
 have kv1:IsEnum k1 e it c od:=(ks1.2 e hei).trans he
 show wpAny _ _ (field (.ref e) 3 >>= _) _ _ ⟨k1,gg,dd,tk,oo⟩
 refine wpAny_bind (wpAny_field kv1 rfl (x:=rawInt c) rfl ?_)
 show wpAny _ _ (field (.ref e) 4 >>= _) _ _ ⟨k1,gg,dd,tk,oo⟩
 refine wpAny_bind (wpAny_field kv1 rfl (x:=.none) rfl ?_)
 show wpAny _ _ (mkInt c >>= _) _ _ ⟨k1,gg,dd,tk,oo⟩
 refine wpAny_bind (wpAny_mkInt ?_)
 show wpAny _ _ (setField (.ref e) 3 (rawInt (c+1)) >>= _) _ _ ⟨k1,gg,dd,tk+1,oo⟩
 refine wpAny_bind (wpAny_setField_rec kv1 (by simp) fun k2 kv2 ks2=>?_)
 replace ks2:Heap.SameBut e k1 k2:=ks2
 replace kv2:IsEnum k2 e it (c+1) od:=kv2
 show wpAny _ _ (setField (.ref e) 4 .none >>= _) _ _ ⟨k2,gg,dd,tk+1,oo⟩
 refine wpAny_bind (wpAny_setField_rec kv2 (by simp) fun k3 kv3 ks3=>?_)
 replace ks3:Heap.SameBut e k2 k3:=ks3
 replace kv3:IsEnum k3 e it (c+1) od:=kv3
 show wpAny _ _ (newTuple [.int c tk,x] >>= _) _ _ ⟨k3,gg,dd,tk+1,oo⟩
 refine wpAny_bind (wpAny_newTuple ?_)
 have kv4:IsEnum (k3.push {cls:=.type "tuple",data:=.seq #[.int c tk,x]}) e it (c+1) od:=Heap.get?_push_of_some _ kv3
 generalize kk4:k3.push {cls:=.type "tuple",data:=.seq #[.int c tk,x]}=k4 at kv4;have hsz0:k3.objs.size=hq0.objs.size:=by rw [ks3.1,ks2.1,ks1.1]
 have hlt0:e < hq0.objs.size:=Heap.lt_size he
 have kt4:k4.get? hq0.objs.size=some {cls:=.type "tuple",data:=.seq #[.int c tk,x]}:=by rw [<-kk4,<-hsz0];exact Heap.get?_push_size _ rfl
 have kz4:k4.objs.size=hq0.objs.size+1:=by rw [<-kk4,Heap.size_push,hsz0]
 have kk4a:∀ b o,b≠e->b≠it->hq0.get? b=some o->k4.get? b=some o:=fun b o hbe hbi hb=>by
  rw [<-kk4];exact Heap.get?_push_of_some _ (ks3.extBut b o hbe (ks2.extBut b o hbe (ks1.extBut b o hbi hb)))
 have ku4:k4.IsListIter it l (i+1):=by
  rw [<-kk4];obtain⟨o,ho,r⟩:=(ku1.extBut ks2.extBut (Ne.symm hei)).extBut ks3.extBut (Ne.symm hei);exact⟨o,Heap.get?_push_of_some _ ho,r⟩
 show wpAny _ _ (Builtin.SmallTypes.ownedTupleIsFree (.ref e) >>= _) _ _ ⟨k4,gg,dd,tk+1,oo⟩
 rw [hsz0];clear kk4 kv3 ks3 kv2 ks2 kv1 ks1 ku1 hsz0 k3 k2 k1;refine wpAny_bind ?_
 ·unfold Builtin.SmallTypes.ownedTupleIsFree;refine wpAny_bind (wpAny_field kv4 rfl (x:=.none) rfl (wpAny_pure ?_))
  simp only [if_true];refine wpAny_bind (wpAny_rule ?_)
  refine wpAny_bind (wpAny_field kv4 rfl (x:=od) rfl ?_)
  refine wpAny_bind (wpAny_setField_rec kv4 (by simp) fun k5 kv5 ks5=>?_)
  replace ks5:Heap.SameBut e k4 k5:=ks5
  replace kv5:IsEnum k5 e it (c+1) x:=kv5
  show wpAny _ _ (Builtin.SmallTypes.ownedTupleHandOut (.ref e) (.ref hq0.objs.size) >>= _) _ _ ⟨k5,gg,dd,tk+1,oo⟩
  refine wpAny_bind ?_
  ·unfold Builtin.SmallTypes.ownedTupleHandOut;refine wpAny_bind (wpAny_setField_rec kv5 (by simp) fun k6 kv6 ks6=>?_)
   replace ks6:Heap.SameBut e k5 k6:=ks6
   replace kv6:IsEnumOut k6 e it (c+1) x hq0.objs.size:=kv6
   refine wpAny_setField_rec kv6 (by simp) fun k7 kv7 ks7=>?_
   replace ks7:Heap.SameBut e k6 k7:=ks7
   replace kv7:IsEnumOut k7 e it (c+1) x hq0.objs.size:=kv7
   refine wpAny_bind (wpAny_letGo (wpAny_pure ⟨_,rfl,hQ k7 kv7 ?_ ?_ ?_ ?_⟩))
   ·exact((ku4.extBut ks5.extBut (Ne.symm hei)).extBut ks6.extBut (Ne.symm hei)).extBut ks7.extBut (Ne.symm hei)
   ·exact ks7.extBut _ _ (Nat.ne_of_gt hlt0) (ks6.extBut _ _ (Nat.ne_of_gt hlt0) (ks5.extBut _ _ (Nat.ne_of_gt hlt0) kt4))
   ·rw [ks7.1,ks6.1,ks5.1,kz4]
   ·exact fun b o hbe hbi hb=>ks7.extBut b o hbe (ks6.extBut b o hbe (ks5.extBut b o hbe (kk4a b o hbe hbi hb)))
theorem pyNext_itemC {e it l:Addr}{i:Nat}{c:Int}{items:Array Value}{x od:Value}{Q:Option Value->Shared->Prop}
  (he:IsEnum s.heap e it c od)(hti:s.heap.IsListIter it l i)(hl:s.heap.IsList l items)(hx:items[i]?=some x)(hei:e≠it)
  (hQ:∀ h',IsEnumOut h' e it (c+1) x s.heap.objs.size->h'.IsListIter it l (i+1) ->
   h'.get? s.heap.objs.size=some {cls:=.type "tuple",data:=.seq #[.int c s.toks,x]}->h'.objs.size=s.heap.objs.size+1 ->
   (∀ b o,b≠e->b≠it->s.heap.get? b=some o->h'.get? b=some o)->Q (some (.ref s.heap.objs.size)) {s with heap:=h',toks:=s.toks+1}) :
  wpAny (model prog w) A (pyNext (.ref e)) Q E s:=by
 have hT:s.TypeIs (.ref e) "enumerate" := ⟨_,he,rfl⟩
 unfold pyNext
 exact wpAny_bind (wpAny_attempt (wpAny_callSpecial?_slot (name:=Str.ofString "__next__") hT F.slot_enumerate_next
  (wpAny_call_entry F.slot_enumerate_next hT F.entry_enumerate_next
   (next_itemC he hti hl hx hei fun h' a b c d k=>wpAny_pure (hQ h' a b c d k)) (F.args_enumerate_next_1 _))))
theorem pyNext_endC {e it l:Addr}{i:Nat}{c:Int}{items:Array Value}{od:Value}{Q:Option Value->Shared->Prop}(hh:A.handled=none)
  (he:IsEnum s.heap e it c od)(hti:s.heap.IsListIter it l i)(hl:s.heap.IsList l items)(hx:items[i]?=none)
  (hQ:∀ h',Heap.ExtBut it s.heap h'->Q none {s with heap:=h'}):wpAny (model prog w) A (pyNext (.ref e)) Q E s:=by
 have hT:s.TypeIs (.ref e) "enumerate" := ⟨_,he,rfl⟩
 unfold pyNext
 refine wpAny_bind (wpAny_attempt (wpAny_callSpecial?_slot (name:=Str.ofString "__next__") hT F.slot_enumerate_next
  (wpAny_call_entry F.slot_enumerate_next hT F.entry_enumerate_next ?_ (F.args_enumerate_next_1 _))))
 show wpAny _ _ (field (.ref e) 2 >>= _) _ _ _
 refine wpAny_bind (wpAny_field he rfl (x:=.ref it) rfl ?_)
 refine wpAny_bind (wpAny_nextOf_list_end hh hti hl hx fun h' x he' hx'=>?_)
 obtain⟨o,ho,hc⟩:=hx';refine wpAny_bind (wpAny_isInstance (T := "StopIteration") (b:=true) ⟨o,ho,hc⟩ isSubtype_stop ?_)
 exact wpAny_pure (hQ _ he')
end
end OlEnum
namespace L2
open PySem PySem.Spec PyProof.Rows
def Ite1 (K:W.Frag)(a:Addr):It :=
 ⟨fun i H=>∃ (xs:List V)(x:V),SqL K H a xs/\xs[i]?=some x,fun i H v H'=>∃ T x,v=.ref T/\H T=none/\H'=upd H T (.tup [.int ((i+1:Nat):Int),x])/\∀ xs,SqL K H a xs->xs[i]?=some x,fun i H=>∃ xs:List V,SqL K H a xs/\xs.length<=i⟩
theorem turn_enum1 {P:Program}{w:World}{K:W.Frag}{elts:List Expr}{kk:Nat}{tpos:Pos}(a e it:Addr) :
  Turn P w K (.Tuple elts kk tpos) (Ite1 K a) [e,it] e (fun i h=>(∃ old,IsEnum h e it ((i+1:Nat):Int) old)/\h.IsListIter it a i/\e≠it) where
 mem:=by simp
 obj:=fun i h st b hb=>by
  obtain⟨⟨old,he⟩,⟨o,ho,hc,hd⟩,_⟩:=st;have e':b=e\/b=it:=by simpa using hb
  rcases e' with z | z
  ·rw [z];exact⟨_,he,fun v q=>nomatch q⟩
  ·rw [z];exact⟨o,ho,fun v q=>by rw [hd] at q;cases q⟩
 keep:=fun i h h' st k=>let ⟨⟨old,he⟩,hi,hne⟩:=st;⟨⟨old,k e (by simp) _ he⟩,hi.at fun o q=>k it (by simp) o q,hne⟩
 item:=by
  intro X hP hw hK hc i pins s σ H E I hf st hg;subst hP hw hK;obtain⟨⟨old,he⟩,hit,hne⟩:=st;obtain⟨xs,x,hq,hx⟩:=hg;obtain⟨its,rv,p,hz⟩:=I.list hq;obtain⟨u,hu,ru⟩:=rv.get hx;have hel:e < s.heap.objs.size:=Heap.lt_size he
  have hil:it < s.heap.objs.size:=by obtain⟨_,q,_⟩:=hit;exact Heap.lt_size q
  refine OlEnum.pyNext_itemC he hit p.isList (x:=u) (by simpa using hu) hne fun h' ho hit' hT hsz hk=>?_
  refine⟨_,rfl,wpAny_letOwnedTupleGo_enum (s:={s with heap:=h',toks:=s.toks+1}) ho fun h'' he' sb=>?_⟩
  have hT2:h''.get? s.heap.objs.size=some {cls:=.type "tuple",data:=.seq #[.int ((i+1:Nat):Int) s.toks,u]}:=(sb.2 _ (Nat.ne_of_gt hel)).trans hT
  have new:ObjOk X.prog X.w (upd H s.heap.objs.size (.tup [.int ((i+1:Nat):Int),x])) h'' s.heap.objs.size (.tup [.int ((i+1:Nat):Int),x]) :=
   ⟨by show 2<=sizeLine;decide,[.int ((i+1:Nat):Int) s.toks,u],.cons ⟨_,rfl⟩ (.cons ru .nil),⟨_,hT2,rfl,⟨_,rfl⟩,rfl⟩⟩
  have I1:Inv X pins σ (upd H s.heap.objs.size (.tup [.int ((i+1:Nat):Int),x])) {s with heap:=h'',toks:=s.toks+1} :=
   I.turnedNew (ch:=[e,it]) (fun b ob hb q=>(sb.2 b (fun z=>hb (by simp [z]))).trans (hk b ob (fun z=>hb (by simp [z])) (fun z=>hb (by simp [z])) q)) hf (Nat.le_refl _) new
  refine⟨.ref s.heap.objs.size,_,I1,rfl,⟨_,x,rfl,I.hok.fresh (Nat.le_refl _),rfl,fun ys hy=>by rw [I.list_inj hy hq];exact hx⟩,⟨⟨u,?_⟩,hit'.at fun o q=>(sb.2 it (Ne.symm hne)).trans q,hne⟩,fun b hb=>?_⟩
  ·have e1:((i+1+1:Nat):Int)=((i+1:Nat):Int)+1:=by omega
   rw [e1];exact he'
  ·have hb':b < s.heap.objs.size:=by
    have e':b=e\/b=it:=by simpa using hb
    rcases e' with z | z
    ·rw [z];exact hel
    ·rw [z];exact hil
   rw [uN (Nat.ne_of_lt hb')];exact(hf b hb).1
 done:=by
  intro X hP hw hK hc i pins s σ H E I hf st hg;subst hP hw hK;obtain⟨⟨old,he⟩,hit,hne⟩:=st;obtain⟨xs,hq,hx⟩:=hg;obtain⟨its,rv,p,hz⟩:=I.list hq;obtain⟨f0,f1,f2,f3,f4,f5⟩:=hf it (by simp);have hl:=rv.length;exact OlEnum.pyNext_endC (I.ok.hd hc) he hit p.isList (by simp;omega) fun h' eb=>⟨rfl,I.turned (t':=s.toks) (fun b o hb q=>eb b o hb q) f0 f1 f3 f4 f5⟩
 self:=fun A i s Q E st h=>let ⟨⟨_,he⟩,_⟩:=st;wpAny_pyIter_enum he h
def iEnum1 (K:W.Frag)(ta:TA):TI:=fun σ H R=>ta σ H fun vs H1=>∃ a xs,vs=[.ref a]/\SqL K H1 a xs/\R (Ite1 K a) H1
theorem pi_enum1 {X:Cx}{e:Expr}{ta:TA}{p pos kp np tpos:Pos}{elts:List Expr}{kk kn:Nat}(hg:Gl X "enumerate")(hm:X.mg "enumerate" = none)(ha:PA X [e] ta)(hs:starEach [e] X.env=[(false,eval e X.env)]:=by rfl) :
  PI X (.Tuple elts kk tpos) (.Call (.Name "enumerate" p) [e] [⟨some "start",.Constant (.int 1) kn np,kp⟩] pos) (iEnum1 X.K ta):=by
 intro pins s σ H R I h;have he:eval (.Call (.Name "enumerate" p) [e] [⟨some "start",.Constant (.int 1) kn np,kp⟩] pos) X.env=(do callWith pos (<-eval (.Name "enumerate" p) X.env) [] (backTo pos (starEach [e] X.env)) (backToKw pos (keywordEach [⟨some "start",.Constant (.int 1) kn np,kp⟩] X.env))):=by rfl
 rw [he];refine wpAny_bind (ld_blt I hg hm boot_enumerate ?_)
 refine OlEnum.callWith_ty_kw (thn (ha pos pins s σ H _ I h) fun us s1 ⟨vs,H1,I1,r1,q1⟩=>?_) (by rw [hs];rfl) (by rw [hs];rfl)
 refine kws_cons (thn (eJ pins s1 σ H1 (fun v H2=>v=.int 1/\H2=H1) I1 ⟨rfl,rfl⟩) fun u s2 ⟨v2,H2,I2,r2,e1,e2⟩=>kws_nil ?_)
 subst e1 e2;obtain⟨t,rfl⟩:=r2;obtain⟨a,xs,ex,hq,q⟩:=q1;subst ex;obtain⟨u1,rfl,ru⟩:=r1.one;cases ru;obtain⟨its,rv,p',hz⟩:=I2.list hq;show wpAny _ _ (call (.type "enumerate") [.ref a] [("start",.int 1 t)]) _ _ _
 refine OlEnum.call_enum1 p'.isList fun h' he hit hk=>wpAny_pyIter_enum he ?_
 have I3:Inv X pins σ H2 {s2 with heap:=h'}:=I2.kept (t':=s2.toks) hk
 refine⟨_,[s2.heap.objs.size+1,s2.heap.objs.size],_,_,H2,rfl,I3,turn_enum1 a _ s2.heap.objs.size,⟨⟨.none,he⟩,hit,Nat.succ_ne_self _⟩,fun b hb=>?_,q⟩
 have hle:s2.heap.objs.size<=b:=by
  have e':b=s2.heap.objs.size+1\/b=s2.heap.objs.size:=by simpa using hb
  rcases e' with z | z
  ·rw [z];exact Nat.le_add_right _ _
  ·rw [z];exact Nat.le_refl _
 exact I2.fpOk hle (I2.hok.fresh hle)
end L2
end
section
namespace L2
open PySem PySem.Spec PyProof.Rows
theorem lc_pure {wi:TI}{g:TG}{tt:TT}{te:TE}{vs:List Nat}{σ:St}{H0:Hp}{Q:VK}(J:It)(H:Hp)(n:Nat)(c:Nat->Bool)(ys:Nat->V)(τ:Nat->St)(hn:n<=sizeLine)
  (hw:∀ R:It->Hp->Prop,R J H->wi σ H0 R)(hstop:∀ H',Same H H'->J.stop n H')(hgo:∀ i H',i < n->Same H H'->J.go i H')
  (hturn:∀ i H' x H'' (k:St->Hp->Prop),i < n->Same H H'->J.yld i H' x H''->(∀ H2,Same H' H2->k (τ i) H2)->g x (bX σ vs) H'' k)(hτ:∀ i,bX (τ i) vs=bX σ vs)
  (ht:∀ i H1 (R:Bool->Hp->Prop),i < n->Same H H1->(∀ H2,Same H1 H2->R (c i) H2)->tt (τ i) H1 R)
  (he:∀ i H1 (R:VK),i < n->c i=true->Same H H1->(∀ H2,Same H1 H2->R (ys i) H2)->te (τ i) H1 R)
  (hq:∀ D H1,H D=none->Same H H1->H1 D=some (.lst (((List.range n).filter c).map ys))->Q (.ref D) H1):tLc wi g tt te vs σ H0 Q:=by
 refine hw _ fun D hD=>?_
 refine⟨fun i m H'=>m=n - i/\i<=n/\Same H H'/\H' D=some (.lst (((List.range i).filter c).map ys)),⟨n,by simp,Nat.zero_le _,Same.new hD,uS⟩,?_⟩
 rintro i m H1 ⟨rfl,hi,s1,h1⟩
 by_cases hlt:i < n
 ·refine .inr ⟨hgo i H1 hlt s1,fun H2=>Same H H2/\H2 D=some (.lst (((List.range (i+1)).filter c).map ys)),fun H2 p=>⟨n - (i+1),by omega,rfl,hlt,p.1,p.2⟩,fun x H' y=>?_⟩
  refine hturn i H1 x H' _ hlt s1 y fun H2 s2=>⟨hτ i,?_⟩
  refine ht i H2 _ hlt (s1.trans s2) fun H3 s3=>?_
  have e:(List.range (i+1)).filter c=(List.range i).filter c++(if c i=true then [i] else []):=by
   rw [List.range_succ,List.filter_append];congr 1
   by_cases z:c i=true
   ·simp [z]
   ·simp [z]
  by_cases z:c i=true
  ·rw [if_pos z];refine he i H3 _ hlt z ((s1.trans s2).trans s3) fun H4 s4=>⟨_,s4 _ _ (s3 _ _ (s2 _ _ h1)),?_,?_,?_⟩
   ·rw [List.length_map];have:((List.range i).filter c).length<=(List.range i).length:=List.length_filter_le _ _
    rw [List.length_range] at this;omega
   ·exact(((s1.trans s2).trans s3).trans s4).upd hD
   ·rw [uS,e,if_pos z,List.map_append];rfl
  ·rw [if_neg z];refine⟨(s1.trans s2).trans s3,?_⟩
   rw [s3 _ _ (s2 _ _ h1),e,if_neg z,List.append_nil]
 ·have e:i=n:=by omega
  subst e;exact .inl ⟨hstop H1 s1,hq D H1 hD s1 h1⟩
theorem lc_listF {K:W.Frag}{a:Addr}{xs:List V}{wi:TI}{tt:TT}{te:TE}{j:Nat}{σ:St}{H H0:Hp}{Q:VK}(c:Nat->Bool)(ys:Nat->V)(hw:∀ R:It->Hp->Prop,R (Itl K a) H->wi σ H0 R)(hl:SqL K H a xs)(hz:xs.length<=sizeLine)
  (ht:∀ i x H1 (R:Bool->Hp->Prop),xs[i]?=some x->Same H H1->(∀ H2,Same H1 H2->R (c i) H2)->tt ((bX σ [j]).set j (some x)) H1 R)
  (he:∀ i x H1 (R:VK),xs[i]?=some x->c i=true->Same H H1->(∀ H2,Same H1 H2->R (ys i) H2)->te ((bX σ [j]).set j (some x)) H1 R)
  (hq:∀ D H1,H D=none->Same H H1->H1 D=some (.lst (((List.range xs.length).filter c).map ys))->Q (.ref D) H1):tLc wi (gJ j) tt te [j] σ H0 Q:=by
 refine lc_pure (Itl K a) H xs.length c ys (fun i=>(bX σ [j]).set j xs[i]?) hz hw (fun H' s=>⟨xs,s.seq hl,Nat.le_refl _⟩) (fun i H' hi s=>⟨xs,xs[i],s.seq hl,List.getElem?_eq_getElem hi⟩) (fun i H' x H'' k hi s y hk=>?_) (fun i=>wipe1)
  (fun i H1 R hi s1 hR=>?_) (fun i H1 R hi z s1 hR=>?_) hq
 ·obtain⟨rfl,y⟩:=y;have:=hk H'' (Same.refl _)
  rw [y xs (s.seq hl)] at this;exact this
 ·skip
  rw [List.getElem?_eq_getElem hi];exact ht i _ H1 R (List.getElem?_eq_getElem hi) s1 hR
 ·skip
  rw [List.getElem?_eq_getElem hi];exact he i _ H1 R (List.getElem?_eq_getElem hi) z s1 hR
theorem lc_rangeF {n:Nat}{wi:TI}{tt:TT}{te:TE}{j:Nat}{σ:St}{H H0:Hp}{Q:VK}(c:Nat->Bool)(ys:Nat->V)(hw:∀ R:It->Hp->Prop,R (Itr 0 n) H->wi σ H0 R)(hz:n<=sizeLine)
  (ht:∀ i H1 (R:Bool->Hp->Prop),i < n->Same H H1->(∀ H2,Same H1 H2->R (c i) H2)->tt ((bX σ [j]).set j (some (.int (i:Nat)))) H1 R)
  (he:∀ i H1 (R:VK),i < n->c i=true->Same H H1->(∀ H2,Same H1 H2->R (ys i) H2)->te ((bX σ [j]).set j (some (.int (i:Nat)))) H1 R)
  (hq:∀ D H1,H D=none->Same H H1->H1 D=some (.lst (((List.range n).filter c).map ys))->Q (.ref D) H1):tLc wi (gJ j) tt te [j] σ H0 Q:=by
 refine lc_pure (Itr 0 n) H n c ys (fun i=>(bX σ [j]).set j (some (.int (i:Nat)))) hz hw (fun H' s=>Nat.le_refl _) (fun i H' hi s=>hi) (fun i H' x H'' k hi s y hk=>?_) (fun i=>wipe1) ht he hq
 obtain⟨rfl,rfl⟩:=y;have:=hk H'' (Same.refl _)
 show k ((bX σ [j]).set j (some (.int (0+(i:Nat))))) H''
 rw [Int.zero_add];exact this
theorem lc_strF {z:Str}{wi:TI}{te:TE}{j:Nat}{σ:St}{H H0:Hp}{Q:VK}(ys:Nat->V)(hw:∀ R:It->Hp->Prop,R (Its z) H->wi σ H0 R)(hz:z.cps.size<=sizeLine)
  (he:∀ i c H1 (R:VK),z.cps[i]?=some c->Same H H1->(∀ H2,Same H1 H2->R (ys i) H2)->te ((bX σ [j]).set j (some (.str ⟨#[c]⟩))) H1 R)
  (hq:∀ D H1,H D=none->Same H H1->H1 D=some (.lst ((List.range z.cps.size).map ys))->Q (.ref D) H1):tLc wi (gJ j) tYes te [j] σ H0 Q:=by
 refine lc_pure (Its z) H z.cps.size (fun _=>true) ys (fun i=>(bX σ [j]).set j ((z.cps[i]?).map fun c=>.str ⟨#[c]⟩)) hz hw (fun H' s=>Nat.le_refl _) (fun i H' hi s=>hi) (fun i H' x H'' k hi s y hk=>?_) (fun i=>wipe1)
  (fun i H1 R hi s1 hR=>hR H1 (Same.refl _)) (fun i H1 R hi z1 s1 hR=>?_) (fun D H1 hD s1 h1=>hq D H1 hD s1 (by rw [h1,List.filter_eq_self.mpr fun _ _=>rfl]))
 ·obtain⟨rfl,c,hc,rfl⟩:=y;have:=hk H'' (Same.refl _)
  rw [hc] at this;exact this
 ·skip
  rw [Array.getElem?_eq_getElem hi];exact he i _ H1 R (Array.getElem?_eq_getElem hi) s1 hR
theorem wipe2 {σ:St}{i j:Nat}{x y:Option V}(h:i≠j):bX (((bX σ [i,j]).set i x).set j y) [i,j]=bX σ [i,j]:=by
 show(((((σ.set j none).set i none).set i x).set j y).set j none).set i none=(σ.set j none).set i none
 rw [List.set_set,List.set_set,List.set_comm _ _ (Ne.symm h),List.set_set];rw [List.set_comm none none h,List.set_set]
theorem lc_enumF {K:W.Frag}{a:Addr}{xs:List V}{wi:TI}{tt:TT}{te:TE}{j1 j2:Nat}{σ:St}{H H0:Hp}{Q:VK}(c:Nat->Bool)(ys:Nat->V)(hj:j1≠j2)(hw:∀ R:It->Hp->Prop,R (Ite K a) H->wi σ H0 R)(hl:SqL K H a xs)(hz:xs.length<=sizeLine)
  (ht:∀ i x H1 (R:Bool->Hp->Prop),xs[i]?=some x->Same H H1->(∀ H2,Same H1 H2->R (c i) H2)->tt (((bX σ [j1,j2]).set j1 (some (.int (i:Nat)))).set j2 (some x)) H1 R)
  (he:∀ i x H1 (R:VK),xs[i]?=some x->c i=true->Same H H1->(∀ H2,Same H1 H2->R (ys i) H2)->te (((bX σ [j1,j2]).set j1 (some (.int (i:Nat)))).set j2 (some x)) H1 R)
  (hq:∀ D H1,H D=none->Same H H1->H1 D=some (.lst (((List.range xs.length).filter c).map ys))->Q (.ref D) H1):tLc wi (gTup K 2 (gCons (gJ j1) (gCons (gJ j2) gNil))) tt te [j1,j2] σ H0 Q:=by
 refine lc_pure (Ite K a) H xs.length c ys (fun i=>((bX σ [j1,j2]).set j1 (some (.int (i:Nat)))).set j2 xs[i]?) hz hw (fun H' s=>⟨xs,s.seq hl,Nat.le_refl _⟩) (fun i H' hi s=>⟨xs,xs[i],s.seq hl,List.getElem?_eq_getElem hi⟩) (fun i H' x H'' k hi s y hk=>?_) (fun i=>wipe2 hj)
  (fun i H1 R hi s1 hR=>?_) (fun i H1 R hi z s1 hR=>?_) hq
 ·obtain⟨T,x,rfl,hT,rfl,y⟩:=y;have:=hk _ (Same.new (o:=.tup [.int (i:Nat),x]) hT)
  rw [y xs (s.seq hl)] at this;exact⟨T,_,rfl,SqT.of uS,rfl,_,_,rfl,_,_,rfl,rfl,this⟩
 ·skip
  rw [List.getElem?_eq_getElem hi];exact ht i _ H1 R (List.getElem?_eq_getElem hi) s1 hR
 ·skip
  rw [List.getElem?_eq_getElem hi];exact he i _ H1 R (List.getElem?_eq_getElem hi) z s1 hR
theorem for_enum1 {K:W.Frag}{a:Addr}{xs:List V}{g:TG}{tb:TS}{D:Ends}{σ:St}{H:Hp}(Pv:Nat->St->Hp->Prop)(h0:Pv 0 σ H)(hl:∀ i σ H,i<=xs.length->Pv i σ H->SqL K H a xs)
  (hs:∀ i x σ H T,xs[i]?=some x->Pv i σ H->H T=none->g (.ref T) σ (upd H T (.tup [.int ((i+1:Nat):Int),x])) fun σ2 H2=>tb {D with nx:=Pv (i+1),ct:=Pv (i+1),bk:=D.nx} σ2 H2)(hd:∀ σ H,Pv xs.length σ H->D.nx σ H) :
  ∃ W:Nat->Nat->St->Hp->Prop,(∃ m,W 0 m σ H)/\∀ i m σ H,W i m σ H ->
   ((Ite1 K a).stop i H/\D.nx σ H)\/((Ite1 K a).go i H/\∃ N:St->Hp->Prop,(∀ σ' H',N σ' H'->∃ m',m' < m/\W (i+1) m' σ' H')/\∀ x H',(Ite1 K a).yld i H x H'->g x σ H' fun σ2 H2=>tb {D with nx:=N,ct:=N,bk:=D.nx} σ2 H2):=by
 refine⟨fun i m σ H=>m=xs.length - i/\i<=xs.length/\Pv i σ H,⟨xs.length,by simp,Nat.zero_le _,h0⟩,?_⟩
 rintro i m σ H ⟨rfl,hi,p⟩
 have q:=hl i σ H hi p;by_cases hlt:i < xs.length
 ·refine .inr ⟨⟨xs,xs[i],q,by simp [hlt]⟩,Pv (i+1),fun σ' H' p'=>⟨xs.length - (i+1),by omega,rfl,hlt,p'⟩,fun x H' y=>?_⟩
  obtain⟨T,x,rfl,hT,rfl,y⟩:=y;exact hs i x σ H T (y xs q) p hT
 ·have e:i=xs.length:=by omega
  subst e;exact .inl ⟨⟨xs,q,Nat.le_refl _⟩,hd σ H p⟩
theorem for_seq {K:W.Frag}{a:Addr}{xs:List V}{g:TG}{tb:TS}{D:Ends}{σ:St}{H H0:Hp}(hS:SqL K H0 a xs\/SqT K H0 a xs)(Pv:Nat->St->Hp->Prop)(h0:Pv 0 σ H)(hk:∀ i σ H',i<=xs.length->Pv i σ H'->(SqL K H0 a xs->SqL K H' a xs)/\(SqT K H0 a xs->SqT K H' a xs))
  (hs:∀ i x σ H,xs[i]?=some x->Pv i σ H->g x σ H fun σ2 H2=>tb {D with nx:=Pv (i+1),ct:=Pv (i+1),bk:=D.nx} σ2 H2)(hd:∀ σ H,Pv xs.length σ H->D.nx σ H) :
  ((∃ xs,SqL K H a xs)/\∃ W:Nat->Nat->St->Hp->Prop,(∃ m,W 0 m σ H)/\∀ i m σ H,W i m σ H ->
   ((Itl K a).stop i H/\D.nx σ H)\/((Itl K a).go i H/\∃ N:St->Hp->Prop,(∀ σ' H',N σ' H'->∃ m',m' < m/\W (i+1) m' σ' H')/\∀ x H',(Itl K a).yld i H x H'->g x σ H' fun σ2 H2=>tb {D with nx:=N,ct:=N,bk:=D.nx} σ2 H2)) \/
  ((∃ xs,SqT K H a xs)/\∃ W:Nat->Nat->St->Hp->Prop,(∃ m,W 0 m σ H)/\∀ i m σ H,W i m σ H ->
   ((Itt K a).stop i H/\D.nx σ H)\/((Itt K a).go i H/\∃ N:St->Hp->Prop,(∀ σ' H',N σ' H'->∃ m',m' < m/\W (i+1) m' σ' H')/\∀ x H',(Itt K a).yld i H x H'->g x σ H' fun σ2 H2=>tb {D with nx:=N,ct:=N,bk:=D.nx} σ2 H2)):=by
 rcases hS with hS | hS
 ·exact .inl ⟨⟨_,(hk 0 σ H (Nat.zero_le _) h0).1 hS⟩,for_list Pv h0 (fun i σ H' hi p=>(hk i σ H' hi p).1 hS) hs hd⟩
 ·exact .inr ⟨⟨_,(hk 0 σ H (Nat.zero_le _) h0).2 hS⟩,for_tup Pv h0 (fun i σ H' hi p=>(hk i σ H' hi p).2 hS) hs hd⟩
end L2
end
section
set_option maxHeartbeats 4000000
namespace Ol
open PySem PySem.Spec PyProof.Rows L2
local macro_rules | `(tactic| walk_at "sc")=>`(tactic| exact⟨rfl,rfl,rfl,by decide +kernel,rfl,by decide +kernel,by decide +kernel⟩)
theorem sc_Province___init__:fS ["self","kind","name","short_name","shores"] ["self","kind","name","short_name","shores"] (dS eL):=by walk_at "sc"
theorem sc_Province_count_shores:fS ["self"] ["self"] (dS cU):=by walk_at "sc"
theorem sc_Province_is_called:fS ["self","word"] ["self","word"] (dS dW):=by walk_at "sc"
theorem sc_Province_has_beginning:fS ["self","word"] ["self","word"] (dS cO):=by walk_at "sc"
theorem sc_Unit___init__:fS ["self","power","fleet","shore"] ["self","power","fleet","shore"] (dS iP):=by walk_at "sc"
theorem sc_Table___init__:fS ["self"] ["self"] (dS gS):=by walk_at "sc"
theorem sc_Table_make_empty:fS ["self"] ["self"] (dS fF):=by walk_at "sc"
theorem sc_Table_has_province:fS ["self","p"] ["self","p"] (dS dR):=by walk_at "sc"
theorem sc_Table_has_shore:fS ["self","p","s"] ["self","p","s"] (dS fX):=by walk_at "sc"
theorem sc_Table_has_kind:fS ["self","p","kind"] ["self","p","kind"] (dS gR):=by walk_at "sc"
theorem sc_Table_has_name:fS ["self","word","province"] ["self","word"] (dS dZ):=by walk_at "sc"
theorem sc_Table_provinces_meant:fS ["self","word","called","p","province"] ["self","word"] (dS aY):=by walk_at "sc"
theorem sc_Table_has_land_link:fS ["self","p","q"] ["self","p","q"] (dS dI):=by walk_at "sc"
theorem sc_Table_has_sea_link:fS ["self","place","other_place"] ["self","place","other_place"] (dS dQ):=by walk_at "sc"
theorem sc_Table_linked_shores:fS ["self","place","q","t"] ["self","place","q"] (dS cC):=by walk_at "sc"
theorem iZ:fS ["self"] ["self"] (dS bS):=by walk_at "sc"
theorem sc_is_power:fS ["number"] ["number"] (dS st_is_power):=by walk_at "sc"
theorem sc_link_between:fS ["one","other"] ["one","other"] (dS jM):=by walk_at "sc"
theorem sc_is_text:fS ["row","longest","number"] ["row","longest"] (dS st_is_text):=by walk_at "sc"
theorem sc_is_printable:fS ["text","byte"] ["text"] (dS fQ):=by walk_at "sc"
theorem sc_spelled:fS ["word","sign"] ["word"] (dS st_spelled):=by walk_at "sc"
theorem sc_parts_of:fS ["text","between","parts","part","byte"] ["text","between"] (dS st_parts_of):=by walk_at "sc"
theorem sc_lines_of:fS ["text"] ["text"] (dS st_lines_of):=by walk_at "sc"
theorem sc_words_of:fS ["text","part"] ["text"] (dS st_words_of):=by walk_at "sc"
theorem sc_line_of:fS ["words","line","word"] ["words"] (dS st_line_of):=by walk_at "sc"
theorem sc_is_great_letter:fS ["byte"] ["byte"] (dS fV):=by walk_at "sc"
theorem sc_are_small_letters:fS ["text","byte"] ["text"] (dS cR):=by walk_at "sc"
theorem sc_is_great_then_small:fS ["text"] ["text"] (dS dH):=by walk_at "sc"
theorem sc_is_name:fS ["text"] ["text"] (dS st_is_name):=by walk_at "sc"
theorem sc_is_short_name:fS ["text"] ["text"] (dS iL):=by walk_at "sc"
theorem sc_is_shore_name:fS ["text"] ["text"] (dS iM):=by walk_at "sc"
theorem sc_are_fitting_shores:fS ["kind","shores","shore"] ["kind","shores"] (dS cK):=by walk_at "sc"
theorem sc_add_province:fS ["table","kind","name_row","short_name_row","shores_row","name","short_name","shores","row"] ["table","kind","name_row","short_name_row","shores_row"] (dS fR):=by walk_at "sc"
theorem sc_add_land_link:fS ["table","p","q","link"] ["table","p","q"] (dS iO):=by walk_at "sc"
theorem sc_add_sea_link:fS ["table","p","s","q","t","link"] ["table","p","s","q","t"] (dS jN):=by walk_at "sc"
theorem sc_can_stand:fS ["table","fleet","p","s"] ["table","fleet","p","s"] (dS st_can_stand):=by walk_at "sc"
theorem sc_add_unit:fS ["table","power","fleet","p","s"] ["table","power","fleet","p","s"] (dS st_add_unit):=by walk_at "sc"
theorem sc_remove_unit:fS ["table","p"] ["table","p"] (dS kJ):=by walk_at "sc"
theorem sc_Place___init__:fS ["self","error","province","shore"] ["self","error","province","shore"] (dS gT):=by walk_at "sc"
theorem sc_no_place:fS ["error"] ["error"] (dS st_no_place):=by walk_at "sc"
theorem sc_read_shore:fS ["table","p","word","shores"] ["table","p","word"] (dS st_read_shore):=by walk_at "sc"
theorem sc_read_place:fS ["table","word","end","meant"] ["table","word"] (dS st_read_place):=by walk_at "sc"
theorem sc_read_first_place:fS ["table","words"] ["table","words"] (dS fD):=by walk_at "sc"
theorem sc_place_word:fS ["table","fleet","p","s","province"] ["table","fleet","p","s"] (dS st_place_word):=by walk_at "sc"
theorem sc_move_words:fS ["table","fleet","order","words"] ["table","fleet","order"] (dS st_move_words):=by walk_at "sc"
theorem sc_order_words:fS ["table","unit","order","start","goal"] ["table","unit"] (dS kK):=by walk_at "sc"
theorem sc_unit_line:fS ["table","p","unit","unit_word"] ["table","p"] (dS st_unit_line):=by walk_at "sc"
theorem sc_print_orders:fS ["table","power","text","p"] ["table","power"] (dS jL):=by walk_at "sc"
theorem sc_Reader___init__:fS ["self","numbers"] ["self","numbers"] (dS gA):=by walk_at "sc"
theorem sc_Reader_has_more:fS ["self"] ["self"] (dS fZ):=by walk_at "sc"
theorem sc_Reader_take_number:fS ["self","number"] ["self"] (dS dU):=by walk_at "sc"
theorem sc_Reader_take_numbers:fS ["self","how_many","taken"] ["self","how_many"] (dS dJ):=by walk_at "sc"
theorem sc_Reader_take_row:fS ["self"] ["self"] (dS fY):=by walk_at "sc"
theorem sc_Reading___init__:fS ["self","error","province","order"] ["self","error","province","order"] (dS fG):=by walk_at "sc"
theorem sc_wrong:fS ["error"] ["error"] (dS st_wrong):=by walk_at "sc"
theorem sc_unit_word_of:fS ["words"] ["words"] (dS jI):=by walk_at "sc"
theorem sc_behind_unit_word:fS ["words"] ["words"] (dS fE):=by walk_at "sc"
theorem sc_error_of_unit:fS ["table","power","asked_for","place","unit"] ["table","power","asked_for","place"] (dS iN):=by walk_at "sc"
theorem sc_read_hold:fS ["p","words"] ["p","words"] (dS st_read_hold):=by walk_at "sc"
theorem sc_shores_meant:fS ["table","p","place","linked"] ["table","p","place"] (dS jJ):=by walk_at "sc"
theorem sc_read_move:fS ["table","p","words","place","behind","by_water","shores"] ["table","p","words"] (dS st_read_move):=by walk_at "sc"
theorem sc_read_goal:fS ["table","words"] ["table","words"] (dS st_read_goal):=by walk_at "sc"
theorem sc_read_help:fS ["table","p","words","alone","with_goal","behind","start","goal"] ["table","p","words","alone","with_goal"] (dS st_read_help):=by walk_at "sc"
theorem sc_read_order:fS ["table","p","words"] ["table","p","words"] (dS st_read_order):=by walk_at "sc"
theorem sc_read_line:fS ["table","power","words","behind","place","error"] ["table","power","words"] (dS st_read_line):=by walk_at "sc"
theorem sc_says_nothing:fS ["words"] ["words"] (dS jK):=by walk_at "sc"
theorem sc_take_line:fS ["table","power","line","told","words","reading"] ["table","power","line","told"] (dS st_take_line):=by walk_at "sc"
theorem sc_tell_wrong_lines:fS ["wrong_lines","shown","answer","number","error"] ["wrong_lines"] (dS fC):=by walk_at "sc"
theorem sc_give_orders:fS ["table","power","told","p","unit"] ["table","power","told"] (dS kL):=by walk_at "sc"
theorem sc_read_text:fS ["table","power","text","told","wrong_lines","number","line","error"] ["table","power","text"] (dS st_read_text):=by walk_at "sc"
theorem sc_reaches:fS ["table","p","q","unit"] ["table","p","q"] (dS st_reaches):=by walk_at "sc"
theorem sc_army_can_go:fS ["table","p","q","by_water"] ["table","p","q","by_water"] (dS kM):=by walk_at "sc"
theorem sc_why_of_move:fS ["table","p","q","shore","by_water","unit","can_go"] ["table","p","q","shore","by_water"] (dS kG):=by walk_at "sc"
theorem sc_why_of_help:fS ["table","p","start","goal"] ["table","p","start","goal"] (dS kH):=by walk_at "sc"
theorem sc_why_of_support:fS ["table","p","start"] ["table","p","start"] (dS gO):=by walk_at "sc"
theorem sc_why_of_support_of_move:fS ["table","p","start","goal"] ["table","p","start","goal"] (dS cN):=by walk_at "sc"
theorem sc_why_of_carrying:fS ["table","p","start","goal"] ["table","p","start","goal"] (dS fU):=by walk_at "sc"
theorem sc_why_of_order:fS ["table","p","order"] ["table","p"] (dS jH):=by walk_at "sc"
theorem sc_order_and_why:fS ["table","p"] ["table","p"] (dS iK):=by walk_at "sc"
theorem sc_tell_order:fS ["table","p","unit"] ["table","p"] (dS st_tell_order):=by walk_at "sc"
theorem sc_find_provinces:fS ["table","word","meant"] ["table","word"] (dS gP):=by walk_at "sc"
theorem sc_tell_orders:fS ["table","answer","p"] ["table"] (dS kI):=by walk_at "sc"
theorem sc_answer_province:fS ["table","reader","kind","name_row","short_name_row","shores_row"] ["table","reader"] (dS fW):=by walk_at "sc"
theorem sc_answer_land:fS ["table","reader","ends"] ["table","reader"] (dS kO):=by walk_at "sc"
theorem sc_answer_sea:fS ["table","reader","ends"] ["table","reader"] (dS st_answer_sea):=by walk_at "sc"
theorem sc_answer_man:fS ["table","reader","given"] ["table","reader"] (dS st_answer_man):=by walk_at "sc"
theorem sc_answer_read:fS ["table","reader","power"] ["table","reader"] (dS kN):=by walk_at "sc"
theorem sc_answer_call:fS ["table","reader","call"] ["table","reader"] (dS gQ):=by walk_at "sc"
theorem sc_answers:fS ["calls","table","reader","answered","answer"] ["calls"] (dS st_answers):=by walk_at "sc"
structure Adr where
 cProvince:Addr
 cUnit:Addr
 cTable:Addr
 cPlace:Addr
 cReader:Addr
 cReading:Addr
 a_HOLD:Addr
 fx:Addr
abbrev DO (x:Str)(k:Nat)(ps:List Str)(sp:W.Frag->Program->World->Adr->Sp)(P:Program)(w:World)(K:W.Frag)(mg:Str->Option Value)(base:Heap)(ad:Adr):Prop:=DefOk P w K mg base x k ps (sp K P w ad)
abbrev MO (C:Adr->Addr)(m:Str)(k:Nat)(ps:List Str)(sp:W.Frag->Program->World->Adr->Sp)(P:Program)(w:World)(K:W.Frag)(mg:Str->Option Value)(base:Heap)(ad:Adr):Prop:=MethOk P w K mg base (C ad) m k ps (sp K P w ad)
abbrev KO (x:Str)(C:Adr->Addr)(k:Nat)(ps:List Str)(sp:W.Frag->Program->World->Adr->Sp)(P:Program)(w:World)(K:W.Frag)(mg:Str->Option Value)(base:Heap)(ad:Adr):Prop:=MakeOk P w K mg base x (C ad) k ps (sp K P w ad)
structure Txt (K:W.Frag)(mg:Str->Option Value)(a:Adr):Prop where
 cl_Province:Cls K a.cProvince
 nf_Province_kind:NoAttr K a.cProvince "kind"
 nf_Province_name:NoAttr K a.cProvince "name"
 nf_Province_short_name:NoAttr K a.cProvince "short_name"
 nf_Province_shores:NoAttr K a.cProvince "shores"
 cl_Unit:Cls K a.cUnit
 nf_Unit_power:NoAttr K a.cUnit "power"
 nf_Unit_fleet:NoAttr K a.cUnit "fleet"
 nf_Unit_shore:NoAttr K a.cUnit "shore"
 nf_Unit_order:NoAttr K a.cUnit "order"
 cl_Table:Cls K a.cTable
 nf_Table_provinces:NoAttr K a.cTable "provinces"
 nf_Table_land_links:NoAttr K a.cTable "land_links"
 nf_Table_sea_links:NoAttr K a.cTable "sea_links"
 nf_Table_units:NoAttr K a.cTable "units"
 cl_Place:Cls K a.cPlace
 nf_Place_error:NoAttr K a.cPlace "error"
 nf_Place_province:NoAttr K a.cPlace "province"
 nf_Place_shore:NoAttr K a.cPlace "shore"
 cl_Reader:Cls K a.cReader
 nf_Reader_numbers:NoAttr K a.cReader "numbers"
 nf_Reader_place:NoAttr K a.cReader "place"
 cl_Reading:Cls K a.cReading
 nf_Reading_error:NoAttr K a.cReading "error"
 nf_Reading_province:NoAttr K a.cReading "province"
 nf_Reading_order:NoAttr K a.cReading "order"
 g_HOLD:GC mg "HOLD" (.ref a.a_HOLD)
 t_HOLD:∀ H,SqT K H a.a_HOLD [.int 0,.int 0,.int 0,.int 0]
 g_LAST_POWER:GC mg "LAST_POWER" (.int 6)
 g_BLANK:GC mg "BLANK" (.int 32)
 g_LAST_PRINTABLE:GC mg "LAST_PRINTABLE" (.int 126)
 g_LINE_END:GC mg "LINE_END" (.int 10)
 g_GREAT_A:GC mg "GREAT_A" (.int 65)
 g_GREAT_Z:GC mg "GREAT_Z" (.int 90)
 g_SMALL_A:GC mg "SMALL_A" (.int 97)
 g_SMALL_Z:GC mg "SMALL_Z" (.int 122)
 g_LONGEST_NAME:GC mg "LONGEST_NAME" (.int 16)
 g_SHORT_NAME:GC mg "SHORT_NAME" (.int 3)
 g_LONGEST_SHORE_NAME:GC mg "LONGEST_SHORE_NAME" (.int 8)
 g_FEWEST_SHORES:GC mg "FEWEST_SHORES" (.int 2)
 g_MOST_SHORES:GC mg "MOST_SHORES" (.int 4)
 g_COAST:GC mg "COAST" (.int 2)
 g_MOST_PROVINCES:GC mg "MOST_PROVINCES" (.int 40)
 g_FULL:GC mg "FULL" (.int (-2))
 g_TAKEN:GC mg "TAKEN" (.int (-4))
 g_UNFIT:GC mg "UNFIT" (.int (-3))
 g_LONGEST_TEXT_building:GC mg "LONGEST_TEXT_building" (.int 40)
 g_OUT_OF_RANGE:GC mg "OUT_OF_RANGE" (.int (-1))
 g_SEA:GC mg "SEA" (.int 1)
 g_LAND:GC mg "LAND" (.int 0)
 g_MOST_LAND_LINKS:GC mg "MOST_LAND_LINKS" (.int 300)
 g_MOST_SEA_LINKS:GC mg "MOST_SEA_LINKS" (.int 300)
 g_FLEET:GC mg "FLEET" (.int 1)
 g_MOST_UNITS:GC mg "MOST_UNITS" (.int 24)
 g_ARMY:GC mg "ARMY" (.int 0)
 g_MISSING:GC mg "MISSING" (.int (-5))
 g_NO_SHORE:GC mg "NO_SHORE" (.int 4)
 g_SEVERAL_PROVINCES:GC mg "SEVERAL_PROVINCES" (.int 3)
 g_NO_PROVINCE:GC mg "NO_PROVINCE" (.int 2)
 g_SLASH:GC mg "SLASH" (.int 47)
 g_MALFORMED:GC mg "MALFORMED" (.int 1)
 g_SUPPORT_OF_MOVE:GC mg "SUPPORT_OF_MOVE" (.int 3)
 g_SUPPORT:GC mg "SUPPORT" (.int 2)
 g_MOVE:GC mg "MOVE" (.int 1)
 g_HOLDING:GC mg "HOLDING" (.int 0)
 g_OTHER_UNIT:GC mg "OTHER_UNIT" (.int 6)
 g_NO_UNIT:GC mg "NO_UNIT" (.int 5)
 g_SEVERAL_SHORES:GC mg "SEVERAL_SHORES" (.int 9)
 g_ARMY_TO_SHORE:GC mg "ARMY_TO_SHORE" (.int 8)
 g_CARRYING:GC mg "CARRYING" (.int 4)
 g_REMARK:GC mg "REMARK" (.int 35)
 g_TOLD_TWICE:GC mg "TOLD_TWICE" (.int 7)
 g_MOST_WRONG_LINES:GC mg "MOST_WRONG_LINES" (.int 20)
 g_LONGEST_TEXT_reading:GC mg "LONGEST_TEXT_reading" (.int 2000)
 g_COUNTS:GC mg "COUNTS" (.int 0)
 g_NO_WAY:GC mg "NO_WAY" (.int 2)
 g_TO_OWN_PROVINCE:GC mg "TO_OWN_PROVINCE" (.int 1)
 g_NO_UNIT_THERE:GC mg "NO_UNIT_THERE" (.int 7)
 g_OUT_OF_REACH:GC mg "OUT_OF_REACH" (.int 3)
 g_OWN_OR_SAME_PROVINCE:GC mg "OWN_OR_SAME_PROVINCE" (.int 4)
 g_FLEET_CARRIED:GC mg "FLEET_CARRIED" (.int 8)
 g_CARRIED_NOWHERE:GC mg "CARRIED_NOWHERE" (.int 6)
 g_NO_FLEET_AT_SEA:GC mg "NO_FLEET_AT_SEA" (.int 5)
 g_LONGEST_WORD:GC mg "LONGEST_WORD" (.int 40)
 g_ORDERS:GC mg "ORDERS" (.int 10)
 g_FIND:GC mg "FIND" (.int 9)
 g_ORDER:GC mg "ORDER" (.int 8)
 g_PRINTED:GC mg "PRINTED" (.int 7)
 g_READ:GC mg "READ" (.int 6)
 g_GONE:GC mg "GONE" (.int 5)
 g_MAN:GC mg "MAN" (.int 4)
 g_SEA_LINK:GC mg "SEA_LINK" (.int 3)
 g_LAND_LINK:GC mg "LAND_LINK" (.int 2)
 g_PROVINCE:GC mg "PROVINCE" (.int 1)
 g_CLEAR:GC mg "CLEAR" (.int 0)
 n_max:mg "max" = none
 n_len:mg "len" = none
 n_any:mg "any" = none
 n_enumerate:mg "enumerate" = none
 n_range:mg "range" = none
 n_sorted:mg "sorted" = none
 n_min:mg "min" = none
 n_all:mg "all" = none
 n_tuple:mg "tuple" = none
 n_ord:mg "ord" = none
 n_set:mg "set" = none
 n_list:mg "list" = none
def aK (x0 x1 x2 x3:V):List (Str×V):=[("kind",x0),("name",x1),("short_name",x2),("shores",x3)]
theorem f_Province_kind {x0 x1 x2 x3:V}:(aK x0 x1 x2 x3).lookup ("kind" : Str)=some x0:=by simp only [aK,List.lookup];rfl
theorem f_Province_name {x0 x1 x2 x3:V}:(aK x0 x1 x2 x3).lookup ("name" : Str)=some x1:=by simp only [aK,List.lookup];rfl
theorem aI {x0 x1 x2 x3:V}:(aK x0 x1 x2 x3).lookup ("short_name" : Str)=some x2:=by simp only [aK,List.lookup];rfl
theorem eE {x0 x1 x2 x3:V}:(aK x0 x1 x2 x3).lookup ("shores" : Str)=some x3:=by simp only [aK,List.lookup];rfl
theorem eR {x0 x1 x2 x3:V}:(aK x0 x1 x2 x3).lookup ("count_shores" : Str)=none:=by with_unfolding_all rfl
theorem gL {x0 x1 x2 x3:V}:(aK x0 x1 x2 x3).lookup ("is_called" : Str)=none:=by with_unfolding_all rfl
theorem jZ {x0 x1 x2 x3:V}:(aK x0 x1 x2 x3).lookup ("has_beginning" : Str)=none:=by with_unfolding_all rfl
def aZ (x0 x1 x2 x3:V):List (Str×V):=[("power",x0),("fleet",x1),("shore",x2),("order",x3)]
theorem jY {x0 x1 x2 x3:V}:(aZ x0 x1 x2 x3).lookup ("power" : Str)=some x0:=by simp only [aZ,List.lookup];rfl
theorem bO {x0 x1 x2 x3:V}:(aZ x0 x1 x2 x3).lookup ("fleet" : Str)=some x1:=by simp only [aZ,List.lookup];rfl
theorem eZ {x0 x1 x2 x3:V}:(aZ x0 x1 x2 x3).lookup ("shore" : Str)=some x2:=by simp only [aZ,List.lookup];rfl
theorem f_Unit_order {x0 x1 x2 x3:V}:(aZ x0 x1 x2 x3).lookup ("order" : Str)=some x3:=by simp only [aZ,List.lookup];rfl
theorem f_Unit_put_order {x0 x1 x2 x3:V}{y:V}:bK "order" y (aZ x0 x1 x2 x3)=aZ x0 x1 x2 y:=by with_unfolding_all rfl
theorem f_Unit_len {x0 x1 x2 x3:V}:(aZ x0 x1 x2 x3).length=4:=rfl
def aQ (x0 x1 x2 x3:V):List (Str×V):=[("provinces",x0),("land_links",x1),("sea_links",x2),("units",x3)]
theorem aC {x0 x1 x2 x3:V}:(aQ x0 x1 x2 x3).lookup ("provinces" : Str)=some x0:=by simp only [aQ,List.lookup];rfl
theorem f_Table_put_provinces {x0 x1 x2 x3:V}{y:V}:bK "provinces" y (aQ x0 x1 x2 x3)=aQ y x1 x2 x3:=by with_unfolding_all rfl
theorem dM {x0 x1 x2 x3:V}:(aQ x0 x1 x2 x3).lookup ("land_links" : Str)=some x1:=by simp only [aQ,List.lookup];rfl
theorem f_Table_put_land_links {x0 x1 x2 x3:V}{y:V}:bK "land_links" y (aQ x0 x1 x2 x3)=aQ x0 y x2 x3:=by with_unfolding_all rfl
theorem eC {x0 x1 x2 x3:V}:(aQ x0 x1 x2 x3).lookup ("sea_links" : Str)=some x2:=by simp only [aQ,List.lookup];rfl
theorem f_Table_put_sea_links {x0 x1 x2 x3:V}{y:V}:bK "sea_links" y (aQ x0 x1 x2 x3)=aQ x0 x1 y x3:=by with_unfolding_all rfl
theorem aE {x0 x1 x2 x3:V}:(aQ x0 x1 x2 x3).lookup ("units" : Str)=some x3:=by simp only [aQ,List.lookup];rfl
theorem f_Table_put_units {x0 x1 x2 x3:V}{y:V}:bK "units" y (aQ x0 x1 x2 x3)=aQ x0 x1 x2 y:=by with_unfolding_all rfl
theorem f_Table_len {x0 x1 x2 x3:V}:(aQ x0 x1 x2 x3).length=4:=rfl
theorem f_Table_no_make_empty {x0 x1 x2 x3:V}:(aQ x0 x1 x2 x3).lookup ("make_empty" : Str)=none:=by with_unfolding_all rfl
theorem bF {x0 x1 x2 x3:V}:(aQ x0 x1 x2 x3).lookup ("has_province" : Str)=none:=by with_unfolding_all rfl
theorem eQ {x0 x1 x2 x3:V}:(aQ x0 x1 x2 x3).lookup ("has_shore" : Str)=none:=by with_unfolding_all rfl
theorem aJ {x0 x1 x2 x3:V}:(aQ x0 x1 x2 x3).lookup ("has_kind" : Str)=none:=by with_unfolding_all rfl
theorem jV {x0 x1 x2 x3:V}:(aQ x0 x1 x2 x3).lookup ("has_name" : Str)=none:=by with_unfolding_all rfl
theorem eP {x0 x1 x2 x3:V}:(aQ x0 x1 x2 x3).lookup ("provinces_meant" : Str)=none:=by with_unfolding_all rfl
theorem f_Table_no_has_land_link {x0 x1 x2 x3:V}:(aQ x0 x1 x2 x3).lookup ("has_land_link" : Str)=none:=by with_unfolding_all rfl
theorem gK {x0 x1 x2 x3:V}:(aQ x0 x1 x2 x3).lookup ("has_sea_link" : Str)=none:=by with_unfolding_all rfl
theorem fL {x0 x1 x2 x3:V}:(aQ x0 x1 x2 x3).lookup ("linked_shores" : Str)=none:=by with_unfolding_all rfl
theorem bL {x0 x1 x2 x3:V}:(aQ x0 x1 x2 x3).lookup ("provinces_with_units" : Str)=none:=by with_unfolding_all rfl
def bQ (x0 x1 x2:V):List (Str×V):=[("error",x0),("province",x1),("shore",x2)]
theorem aW {x0 x1 x2:V}:(bQ x0 x1 x2).lookup ("error" : Str)=some x0:=by simp only [bQ,List.lookup];rfl
theorem bG {x0 x1 x2:V}:(bQ x0 x1 x2).lookup ("province" : Str)=some x1:=by simp only [bQ,List.lookup];rfl
theorem fM {x0 x1 x2:V}:(bQ x0 x1 x2).lookup ("shore" : Str)=some x2:=by simp only [bQ,List.lookup];rfl
def bU (x0 x1:V):List (Str×V):=[("numbers",x0),("place",x1)]
theorem iT {x0 x1:V}:(bU x0 x1).lookup ("numbers" : Str)=some x0:=by simp only [bU,List.lookup];rfl
theorem dD {x0 x1:V}:(bU x0 x1).lookup ("place" : Str)=some x1:=by simp only [bU,List.lookup];rfl
theorem f_Reader_put_place {x0 x1:V}{y:V}:bK "place" y (bU x0 x1)=bU x0 y:=by with_unfolding_all rfl
theorem f_Reader_len {x0 x1:V}:(bU x0 x1).length=2:=rfl
theorem f_Reader_no_has_more {x0 x1:V}:(bU x0 x1).lookup ("has_more" : Str)=none:=by with_unfolding_all rfl
theorem aO {x0 x1:V}:(bU x0 x1).lookup ("take_number" : Str)=none:=by with_unfolding_all rfl
theorem bP {x0 x1:V}:(bU x0 x1).lookup ("take_numbers" : Str)=none:=by with_unfolding_all rfl
theorem bT {x0 x1:V}:(bU x0 x1).lookup ("take_row" : Str)=none:=by with_unfolding_all rfl
def cQ (x0 x1 x2:V):List (Str×V):=[("error",x0),("province",x1),("order",x2)]
theorem jP {x0 x1 x2:V}:(cQ x0 x1 x2).lookup ("error" : Str)=some x0:=by simp only [cQ,List.lookup];rfl
theorem kZ {x0 x1 x2:V}:(cQ x0 x1 x2).lookup ("province" : Str)=some x1:=by simp only [cQ,List.lookup];rfl
theorem f_Reading_order {x0 x1 x2:V}:(cQ x0 x1 x2).lookup ("order" : Str)=some x2:=by simp only [cQ,List.lookup];rfl
end Ol
end
section
namespace Ol
open Vbsoab Vbsoac
open Vbsoaa (Man Men Order)
def cA (c:Nat):Bytes->List Bytes
 | []=>[[]]
 | b::r=>match cA c r with
  | []=>[[b]]
  | l::ls=>if b=c then []::l::ls else(b::l)::ls
theorem lines_parts:∀ l:Bytes,linesOf l=cA 10 l
 | []=>rfl
 | b::r=>by
  unfold linesOf cA;rw [lines_parts r]
  all_goals rfl
theorem wordsIn_parts:∀ l:Bytes,wordsIn l=cA 32 l
 | []=>rfl
 | b::r=>by
  unfold wordsIn cA;rw [wordsIn_parts r]
  all_goals rfl
def cM (c:Nat)(x:List Bytes×Bytes)(b:Nat):List Bytes×Bytes:=if b=c then(x.1++[x.2],[]) else(x.1,x.2++[b])
theorem parts_ne (c:Nat):∀ l:Bytes,∃ h t,cA c l=h::t
 | []=>⟨[],[],rfl⟩
 | b::r=>by
  obtain⟨h,t,e⟩:=parts_ne c r;unfold cA;rw [e];by_cases z:b=c
  ·exact⟨_,_,if_pos z⟩
  ·exact⟨_,_,if_neg z⟩
theorem parts_fold (c:Nat):∀ (l:Bytes)(ps:List Bytes)(cur h:Bytes)(t:List Bytes),cA c l=h::t->(l.foldl (cM c) (ps,cur)).1++[(l.foldl (cM c) (ps,cur)).2]=ps++(cur++h)::t
 | [],ps,cur,h,t,e=>by
  have e:[]=h/\[]=t:=by simpa [cA] using e
  obtain⟨rfl,rfl⟩:=e;simp
 | b::r,ps,cur,h,t,e=>by
  obtain⟨h1,t1,e1⟩:=parts_ne c r;unfold cA at e;rw [e1] at e;by_cases z:b=c
  ·have e:[]::h1::t1=h::t:=by simpa [z] using e
   obtain⟨rfl,rfl⟩:=List.cons.inj e;rw [List.foldl_cons,show cM c (ps,cur) b=(ps++[cur],[]) by simp [cM,z],parts_fold c r _ _ _ _ e1]
   simp
  ·have e:(b::h1)::t1=h::t:=by simpa [z] using e
   obtain⟨rfl,rfl⟩:=List.cons.inj e;rw [List.foldl_cons,show cM c (ps,cur) b=(ps,cur++[b]) by simp [cM,z],parts_fold c r _ _ _ _ e1]
   simp
theorem parts_all (c:Nat)(l:Bytes):(l.foldl (cM c) ([],[])).1++[(l.foldl (cM c) ([],[])).2]=cA c l:=by
 obtain⟨h,t,e⟩:=parts_ne c l;rw [parts_fold c l [] [] h t e,e];simp
theorem pstep_len (c:Nat):∀ (l:Bytes)(ps:List Bytes)(cur:Bytes),(l.foldl (cM c) (ps,cur)).1.length<=ps.length+l.length/\(l.foldl (cM c) (ps,cur)).2.length<=cur.length+l.length
 | [],ps,cur=>by simp
 | b::r,ps,cur=>by
  rw [List.foldl_cons];by_cases z:b=c
  ·rw [show cM c (ps,cur) b=(ps++[cur],[]) by simp [cM,z]]
   have:=pstep_len c r (ps++[cur]) []
   simp only [List.length_append,List.length_cons,List.length_nil] at this ⊢;omega
  ·rw [show cM c (ps,cur) b=(ps,cur++[b]) by simp [cM,z]]
   have:=pstep_len c r ps (cur++[b])
   simp only [List.length_append,List.length_cons,List.length_nil] at this ⊢;omega
theorem parts_len (c:Nat)(l:Bytes):(cA c l).length<=l.length+1:=by
 rw [<-parts_all,List.length_append];have:=(pstep_len c l [] []).1
 simp only [List.length_nil,List.length_cons] at this ⊢;omega
theorem parts_each (c:Nat):∀ (l:Bytes),∀ p∈cA c l,p.length<=l.length/\∀ b∈p,b∈l
 | [],p,hp=>by
  have:p=[]:=by simpa [cA] using hp
  subst this;simp
 | b::r,p,hp=>by
  obtain⟨h1,t1,e1⟩:=parts_ne c r;have ih:=parts_each c r;rw [e1] at ih;unfold cA at hp;rw [e1] at hp
  have go:∀ p,p∈h1::t1->p.length<=(b::r).length/\∀ x∈p,x∈b::r:=fun p hp=>by
   have:=ih p hp
   exact⟨Nat.le_succ_of_le this.1,fun x hx=>List.mem_cons_of_mem _ (this.2 x hx)⟩
  by_cases z:b=c
  ·have hp:p=[]\/p∈h1::t1:=by simpa [z] using hp
   rcases hp with rfl | hp
   ·simp
   ·exact go p hp
  ·have hp:p=b::h1\/p∈t1:=by simpa [z] using hp
   rcases hp with rfl | hp
   ·have:=ih h1 List.mem_cons_self
    refine⟨Nat.succ_le_succ this.1,fun x hx=>?_⟩
    rcases List.mem_cons.mp hx with rfl | hx
    ·exact List.mem_cons_self
    ·exact List.mem_cons_of_mem _ (this.2 x hx)
   ·exact go p (List.mem_cons_of_mem _ hp)
theorem words_each (l:Bytes):∀ p∈wordsOf l,p≠[]/\p.length<=l.length/\∀ b∈p,b∈l:=fun p hp=>by
 unfold wordsOf at hp;obtain⟨h1,h2⟩:=List.mem_filter.mp hp;rw [wordsIn_parts] at h1;exact⟨by simpa using h2,parts_each 32 l p h1⟩
end Ol
end
section
namespace Ol
open PySem PySem.Spec PyProof.Rows L2
abbrev Bytes:=Vbsoab.Bytes
def bv (w:Bytes):List V:=w.map fun(n:Nat)=>V.int (n:Int)
def nI (l:List Nat):List Int:=l.map fun(n:Nat)=>(n:Int)
theorem bv_app (a b:Bytes):bv (a++b)=bv a++bv b:=List.map_append
theorem aG (a:Bytes):(bv a).length=a.length:=List.length_map _
theorem iV (l:Bytes):bv l=(nI l).map V.int:=by unfold bv nI;rw [List.map_map];rfl
theorem nI_len (l:List Nat):(nI l).length=l.length:=List.length_map _
theorem nI_inj {a b:List Nat}(h:nI a=nI b):a=b:=by
 induction a generalizing b with
 | nil=>cases b <;> simp_all [nI]
 | cons x xs ih =>
  cases b with
  | nil=>simp [nI] at h
  | cons y ys =>
   simp only [nI,List.map_cons,List.cons.injEq] at h;rw [ih (b:=ys) h.2,Int.ofNat.inj h.1]
theorem nI_iff {a b:List Nat}:nI a=nI b↔a=b:=⟨nI_inj,fun e=>by rw [e]⟩
abbrev WordsAt (H:Hp):List Bytes->List Addr->Prop:=Paired fun w q=>H q=some (.tup (bv w))
theorem WordsAt.mono {H H':Hp}{ws:List Bytes}{qs:List Addr}(h:WordsAt H ws qs)(k:∀ b xs,H b=some (.tup xs)->H' b=some (.tup xs)):WordsAt H' ws qs:=Paired.mapP h fun _ _ z=>k _ _ z
theorem Paired.snoc {α β:Type}{G:α->β->Prop}{x:α}{y:β}(h:G x y):∀ {l:List α}{m:List β},Paired G l m->Paired G (l++[x]) (m++[y])
 | _,_,.nil=>.cons h .nil
 | _,_,.cons a t=>.cons a (Paired.snoc h t)
theorem Paired.app {α β:Type}{G:α->β->Prop}:∀ {l l':List α}{m m':List β},Paired G l m->Paired G l' m'->Paired G (l++l') (m++m')
 | _,_,_,_,.nil,k=>k
 | _,_,_,_,.cons a t,k=>.cons a (Paired.app t k)
theorem Paired.at_ {α β:Type}{G:α->β->Prop}:∀ {l:List α}{m:List β},Paired G l m->∀ {i:Nat}{x:α},l[i]?=some x->∃ y,m[i]?=some y/\G x y
 | _,_,.nil,i,x,e=>by simp at e
 | _,_,.cons a t,0,x,e=>by
  simp only [List.getElem?_cons_zero,Option.some.injEq] at e;subst e;exact⟨_,rfl,a⟩
 | _,_,.cons a t,i+1,x,e=>by
  obtain⟨y,h1,h2⟩:=Paired.at_ t (i:=i) (x:=x) (by simpa using e)
  exact⟨y,by simpa using h1,h2⟩
theorem Paired.ta_ {α β:Type}{G:α->β->Prop}:∀ {l:List α}{m:List β},Paired G l m->∀ {i:Nat}{y:β},m[i]?=some y->∃ x,l[i]?=some x/\G x y
 | _,_,.nil,i,x,e=>by simp at e
 | _,_,.cons a t,0,x,e=>by
  simp only [List.getElem?_cons_zero,Option.some.injEq] at e;subst e;exact⟨_,rfl,a⟩
 | _,_,.cons a t,i+1,x,e=>by
  obtain⟨y,h1,h2⟩:=Paired.ta_ t (i:=i) (y:=x) (by simpa using e)
  exact⟨y,by simpa using h1,h2⟩
theorem WordsAt.tups {H:Hp}:∀ {ws:List Bytes}{qs:List Addr},WordsAt H ws qs->TupsAt H (ws.map nI) qs
 | _,_,.nil=>.nil
 | _,_,.cons h t=>.cons (by rw [h,iV]) (WordsAt.tups t)
theorem tyl {K:W.Frag}{H:Hp}{p:Addr}{xs:List V}(h:H p=some (.lst xs)):tyV K "list" (.ref p) H:=.inl ⟨rfl,_,SqL.of h⟩
def tabK:HO->Bool
 | .lst _=>true
 | .tup _=>true
 | .dK _=>true
 | .dT _=>true
 | .ext _=>true
 | .frz _ _=>true
 | .ins _ _ fs=>fs.length==4
 | _=>false
def KeepT (H H':Hp):Prop:=∀ b o,H b=some o->tabK o=true->H' b=some o
theorem Same.keepT {H H':Hp}(s:Same H H'):KeepT H H':=fun b o h _=>s b o h
theorem sqT_keep {K:W.Frag}{H H':Hp}(k:KeepT H H'){a:Addr}{xs:List V}(h:SqT K H a xs):SqT K H' a xs:=by
 rcases h with (h | ⟨o,h⟩) | h
 ·exact .inl (.inl (k _ _ h rfl))
 ·exact .inl (.inr ⟨o,k _ _ h rfl⟩)
 ·exact .inr h
structure TAd where
 dx:Addr
 pv:Addr
 ll:Addr
 sl:Addr
 un:Addr
def ProvAt (ad:Adr)(H:Hp)(pv:Addr)(p:Vbsoab.Province)(q:Addr):Prop:=∃ dx n s l ws,H q=some (.ins ad.cProvince dx (aK (.int (p.kind:Int)) (.ref n) (.ref s) (.ref l))) /\
 H n=some (.tup (bv p.name))/\H s=some (.tup (bv p.short))/\(l≠pv/\l≠ad.fx)/\H l=some (.lst (ws.map V.ref))/\WordsAt H p.shores ws
theorem ProvAt.mono {ad:Adr}{H H':Hp}{pv:Addr}{p:Vbsoab.Province}{q:Addr}(h:ProvAt ad H pv p q)(k:∀ b o,b≠pv->H b=some o->tabK o=true->H' b=some o)(hpv:∃ xs,H pv=some (.lst xs)):ProvAt ad H' pv p q:=by
 obtain⟨dx,n,s,l,ws,h1,h2,h3,h4,h5,h6⟩:=h;obtain⟨xs,hx⟩:=hpv;have nt:∀ b ys,H b=some (.tup ys)->b≠pv:=fun b ys z=>bB z hx (by intro e;cases e)
 exact⟨dx,n,s,l,ws,k _ _ (bB h1 hx (by intro e;cases e)) h1 rfl,k _ _ (nt _ _ h2) h2 rfl,k _ _ (nt _ _ h3) h3 rfl,h4,k _ _ h4.1 h5 rfl,h6.mono fun b ys z=>k _ _ (nt _ _ z) z rfl⟩
def eY (e:Nat×Nat):List Key:=[.inl ((min e.1 e.2:Nat):Int),.inl ((max e.1 e.2:Nat):Int)]
def codeKey (x:Nat):List Key:=[.inl ((x / 4:Nat):Int),.inl ((x % 4:Nat):Int)]
def iR (e:Nat×Nat):List (List Key):=[codeKey (min e.1 e.2),codeKey (max e.1 e.2)]
def UnitAt (K:W.Frag)(ad:Adr)(H:Hp)(m:Vbsoaa.Man)(a:Addr):Prop:=∃ dx o,H a=some (.ins ad.cUnit dx (aZ (.int (m.power:Int)) (.int ((Vbsoac.bit m.fleet:Nat):Int)) (.int (m.shore:Int)) (.ref o)))/\SqT K H o (bv (Vbsoac.orderNumbers m.order))
theorem UnitAt.mono {K:W.Frag}{ad:Adr}{H H':Hp}{m:Vbsoaa.Man}{a:Addr}(h:UnitAt K ad H m a)(k:KeepT H H'):UnitAt K ad H' m a:=by
 obtain⟨dx,o,h1,h2⟩:=h;exact⟨dx,o,k _ _ h1 rfl,sqT_keep k h2⟩
def aF (t:Vbsoac.Table):Nat:=t.map.provinces.length
def OrdOk (t:Vbsoac.Table)(fleet:Bool):Vbsoaa.Order->Prop
 | .hold=>True
 | .move p s _=>p < aF t/\(if fleet=true then s < Vbsoac.shoresOf t.map p else s=0)
 | .stay p=>p < aF t
 | .aid p q=>p < aF t/\q < aF t
 | .carry p q=>p < aF t/\q < aF t
structure ManOk (t:Vbsoac.Table)(m:Vbsoaa.Man):Prop where
 prov:m.prov < aF t
 shore:m.shore < Vbsoac.shoresOf t.map m.prov
 army:m.fleet=false->m.shore=0/\(Vbsoab.provAt t.map m.prov).kind≠1
 ord:OrdOk t m.fleet m.order
structure ProvOk (p:Vbsoab.Province):Prop where
 name:p.name.length<=16
 short:p.short.length=3
 shores:p.shores.length<=4
 each:∀ s∈p.shores,s.length<=8
def PlaceOk (t:Vbsoac.Table)(x:Nat):Prop:=x / 4 < aF t/\x % 4 < Vbsoac.shoresOf t.map (x / 4)
structure WF (t:Vbsoac.Table):Prop where
 few:t.map.provinces.length<=40
 prov:∀ p∈t.map.provinces,ProvOk p
 once:∀ i j w,i < t.map.provinces.length->j < t.map.provinces.length->Vbsoab.called (Vbsoab.provAt t.map i) w=true->Vbsoab.called (Vbsoab.provAt t.map j) w=true->i=j
 land:t.map.land.length<=300
 lands:∀ e∈t.map.land,(Vbsoab.provAt t.map e.1).kind≠1/\(Vbsoab.provAt t.map e.2).kind≠1/\e.1 < aF t/\e.2 < aF t
 sea:t.map.sea.length<=300
 seas:∀ e∈t.map.sea,PlaceOk t e.1/\PlaceOk t e.2
 men:t.men.length<=24
 sorted:t.men.Pairwise fun a b=>a.prov < b.prov
 man:∀ m∈t.men,ManOk t m
structure TabAt (K:W.Frag)(P:Program)(w:World)(ad:Adr)(H:Hp)(tb:Addr)(A:TAd)(t:Vbsoac.Table):Prop where
 obj:H tb=some (.ins ad.cTable A.dx (aQ (.ref A.pv) (.ref A.ll) (.ref A.sl) (.ref A.un)))
 provs:∃ qs,H A.pv=some (.lst (qs.map V.ref))/\Paired (ProvAt ad H A.pv) t.map.provinces qs
 land:H A.ll=some (.dT (t.map.land.map fun e=>(eY e,V.bl true)))
 sea:NestDict P w H A.sl (t.map.sea.map fun e=>(iR e,V.bl true))
 units:∃ us:List (Vbsoaa.Man×Addr),H A.un=some (.dK (us.map fun u=>(Sum.inl ((u.1.prov:Nat):Int),V.ref u.2)))/\(us.map (·.1)).Perm t.men/\(us.map (·.2)).Nodup/\∀ u∈us,UnitAt K ad H u.1 u.2
 wf:WF t
 fx:∃ l,H ad.fx=some (.lst l)
theorem TabAt.mono {K:W.Frag}{P:Program}{w:World}{ad:Adr}{H H':Hp}{tb:Addr}{A:TAd}{t:Vbsoac.Table}(h:TabAt K P w ad H tb A t)(k:KeepT H H'):TabAt K P w ad H' tb A t:=by
 obtain⟨h1,⟨qs,h2,h3⟩,h4,h5,⟨us,h6,h7,h8,h9⟩,h10,⟨fl,h11⟩⟩:=h;refine⟨k _ _ h1 rfl,⟨qs,k _ _ h2 rfl,Paired.mapP h3 fun _ _ z=>z.mono (fun b o _ e y=>k b o e y) ⟨_,h2⟩⟩,k _ _ h4 rfl,?_,⟨us,k _ _ h6 rfl,h7,h8,fun u hu=>(h9 u hu).mono k⟩,h10,fl,k _ _ h11 rfl⟩
 refine h5.mono ?_ fun b xs e=>k _ _ e rfl
 obtain⟨_,_,xs,e,_⟩:=h5;rw [e];exact k _ _ e rfl
theorem TabAt.same {K:W.Frag}{P:Program}{w:World}{ad:Adr}{H H':Hp}{tb:Addr}{A:TAd}{t:Vbsoac.Table}(h:TabAt K P w ad H tb A t)(s:Same H H'):TabAt K P w ad H' tb A t:=h.mono (Same.keepT s)
def keepK:HO->Bool
 | .lst _=>true
 | .tup _=>true
 | .frz _ _=>true
 | .ins _ _ fs=>fs.length==2
 | _=>false
def KeepF (pv:Addr)(H H':Hp):Prop:=∀ b o,H b=some o->b≠pv->keepK o=true->H' b=some o
theorem Same.keepF {H H':Hp}(s:Same H H')(pv:Addr):KeepF pv H H':=fun b o h _ _=>s b o h
theorem KeepF.trans {pv:Addr}{H H1 H2:Hp}(a:KeepF pv H H1)(b:KeepF pv H1 H2):KeepF pv H H2:=fun c o h z k=>b c o (a c o h z k) z k
theorem dec_and {c:Prop} [Decidable c] {b:Bool}{R:V->Prop}(h:R (.bl (decide c&&b))):if c then R (.bl b) else R (.bl false):=by
 by_cases e:c
 ·rw [if_pos e];simpa [e] using h
 ·rw [if_neg e];simpa [e] using h
theorem bool_or {a b:Bool}{R:V->Prop}(h:R (.bl (a||b))):if a=true then R (.bl true) else R (.bl b):=by
 cases a <;> simpa using h
theorem chain_bl {lo n hi:Int}{R:V->Prop}(h:R (.bl (decide (lo<=n)&&decide (n<=hi)))):if lo<=n then R (.bl (decide (n<=hi))) else R (.bl false):=dec_and h
def toI:V->Int
 | .int i=>i
 | _=>0
end Ol
end
section
namespace L2
open PySem PySem.Spec PyProof.Rows
theorem call_len_seqK {X:Cx}{K:W.Frag}(e:X.K=K):CallR X (.builtin "len") (fun xs H Q=>∃ p ys,xs=[.ref p]/\(SqL K H p ys\/SqT K H p ys)/\Q (.int ys.length) H):=e ▸ call_len_seq
end L2
namespace Ol
open PySem PySem.Spec PyProof.Rows L2
def sel {α β:Type}(f:α->Bool):List α->List β->List β
 | x::xs,y::ys=>if f x=true then y::sel f xs ys else sel f xs ys
 | _,_=>[]
theorem sel_range {α β γ:Type}(f:α->Bool)(g:Option β->γ):∀ (l:List α)(m:List β),l.length=m.length ->
  ((List.range m.length).filter (fun i=>(l[i]?).any f)).map (fun i=>g m[i]?)=(sel f l m).map fun y=>g (some y)
 | [],[],_=>rfl
 | [],_::_,h=>by simp at h
 | _::_,[],h=>by simp at h
 | x::xs,y::ys,h=>by
  have ih:=sel_range f g xs ys (by simpa using h)
  rw [List.length_cons,List.range_succ_eq_map,List.filter_cons,List.filter_map]
  have e:((fun i=>((x::xs)[i]?).any f) ∘ Nat.succ)=fun i=>(xs[i]?).any f:=by
   funext i
   simp
  rw [e];unfold sel;by_cases z:f x=true
  ·rw [if_pos (by simpa using z),if_pos z,List.map_cons,List.map_cons,List.map_map,<-ih]
   congr 1
  ·rw [if_neg (by simpa using z),if_neg z,List.map_map,<-ih]
   congr 1
theorem sel_paired {α β:Type}{G:α->β->Prop}(f:α->Bool):∀ {l:List α}{m:List β},Paired G l m->Paired G (l.filter f) (sel f l m)
 | _,_,.nil=>.nil
 | _,_,.cons (a:=x) (l₁:=xs) h t=>by
  unfold sel;by_cases z:f x=true
  ·rw [List.filter_cons_of_pos z,if_pos z];exact .cons h (sel_paired f t)
  ·rw [List.filter_cons_of_neg z,if_neg z];exact sel_paired f t
end Ol
end
section
namespace L2
open PySem PySem.Spec PyProof.Rows
theorem pg_tup2K {X:Cx}{K:W.Frag}{i j k:Nat}{x y:Str}{p1 p2 pos:Pos}(hK:X.K=K)(hc:X.calm=true)(hN:X.N.Nodup)(hi:X.N[i]?=some x)(hx:Loc X.env.scope x)(hj:X.N[j]?=some y)(hy:Loc X.env.scope y)
  (hf:X.fn x=true\/X.env.scope.names.lookup x=some .local:=by first | exact .inl rfl | exact .inr rfl)(hf2:X.fn y=true\/X.env.scope.names.lookup y=some .local:=by first | exact .inl rfl | exact .inr rfl) :
  PG X (.Tuple [.Name x p1,.Name y p2] k pos) (gTup K 2 (gCons (gJ i) (gCons (gJ j) gNil))):=by
 subst hK;exact pg_tup hc (pgs_cons (cY hN hi hx hf) (pgs_cons (cY hN hj hy hf2) pgs_nil))
end L2
end
section
namespace L2
open PySem PySem.Spec PyProof.Rows
theorem bY {t u:TS}{D:Ends}{σ:St}{H:Hp}(h:∀ k,k=u D->t {D with nx:=k} σ H):tSeq t u D σ H:=h _ rfl
theorem lc_wi {wi:TI}{g:TG}{tt:TT}{te:TE}{vs:List Nat}{σ:St}{H0:Hp}{Q:VK}(C:It->Hp->Prop)(hw:∀ R:It->Hp->Prop,(∀ J H,C J H->R J H)->wi σ H0 R)(h:∀ J H,C J H->tLc (fun _ _ R=>R J H) g tt te vs σ H Q):tLc wi g tt te vs σ H0 Q:=hw _ fun J H c=>h J H c
end L2
end
section
namespace Ol
open PySem PySem.Spec PyProof.Rows L2
theorem filter_one {p:Nat->Bool}{i:Nat}(hp:p i=true):∀ n:Nat,(∀ j,j < n->p j=true->j=i)->(List.range n).filter p=if i < n then [i] else []
 | 0,_=>by simp
 | n+1,h=>by
  rw [List.range_succ,List.filter_append,filter_one hp n (fun j hj=>h j (by omega))]
  by_cases c:p n=true
  ·have e:=h n (by omega) c;subst e;simp [c]
  ·have ne:n≠i:=fun e=>c (by rw [e];exact hp)
   have c':p n=false:=by simpa using c
   by_cases z:i < n
   ·rw [if_pos z,if_pos (by omega)];simp [c']
   ·rw [if_neg z,if_neg (by omega)];simp [c']
theorem cW {m:Vbsoab.Map}{i:Nat}(hi:i < m.provinces.length):m.provinces[i]?=some (Vbsoab.provAt m i):=by
 unfold Vbsoab.provAt;rw [List.getD_eq_getElem?_getD,List.getElem?_eq_getElem hi];rfl
def eS (m:Vbsoab.Map)(l:Bytes)(i:Nat):Bool:=(m.provinces[i]?).any fun p=>Vbsoab.called p l
def beginsAt (m:Vbsoab.Map)(l:Bytes)(i:Nat):Bool:=(m.provinces[i]?).any fun p=>Vbsoab.begins l p.name
theorem calledAt_lt {m:Vbsoab.Map}{l:Bytes}{i:Nat}(hi:i < m.provinces.length):eS m l i=Vbsoab.called (Vbsoab.provAt m i) l:=by
 unfold eS;rw [cW hi];rfl
theorem find_eq {t:Vbsoac.Table}(wf:WF t)(l:Bytes) :
  Vbsoab.find t.map l=if 0 < ((List.range t.map.provinces.length).filter (eS t.map l)).length\/l.length=0 then(List.range t.map.provinces.length).filter (eS t.map l) else(List.range t.map.provinces.length).filter (beginsAt t.map l):=by
 unfold Vbsoab.find;cases e:Vbsoab.exactly t.map l with
 | some i =>
  unfold Vbsoab.exactly at e;obtain⟨hi,h1,_⟩:=List.findIdx?_eq_some_iff_getElem.mp e
  have c:eS t.map l i=true:=by
   rw [calledAt_lt hi];have:=cW hi
   rw [List.getElem?_eq_getElem hi] at this;rw [<-Option.some.inj this];exact h1
  have e1:(List.range t.map.provinces.length).filter (eS t.map l)=[i]:=by
   rw [filter_one c _ fun j hj hc=>?_,if_pos hi]
   rw [calledAt_lt hj] at hc;rw [calledAt_lt hi] at c;exact wf.once j i l hj hi hc c
  rw [e1];simp
 | none =>
  unfold Vbsoab.exactly at e;have h0:=List.findIdx?_eq_none_iff.mp e
  have e1:(List.range t.map.provinces.length).filter (eS t.map l)=[]:=by
   refine List.filter_eq_nil_iff.mpr fun i hi=>?_
   rw [List.mem_range] at hi;rw [calledAt_lt hi];have:=h0 (Vbsoab.provAt t.map i) (List.mem_of_getElem? (cW hi))
   simp [this]
  rw [e1];by_cases z:l=[]
  ·simp [z]
  ·have z2:¬ l.length=0:=fun q=>z (List.length_eq_zero_iff.mp q)
   simp only [z,if_false,List.length_nil,Nat.lt_irrefl,z2,or_self];refine List.filter_congr fun i hi=>?_
   rw [List.mem_range] at hi;unfold beginsAt;rw [cW hi];rfl
end Ol
end
section
namespace Ol
open PySem PySem.Spec PyProof.Rows L2
theorem valV_some {κ:Type} [DecidableEq κ] {α:Type}(f:α->κ)(k:κ):∀ l:List α,(cF (l.map fun e=>(f e,V.bl true)) k).isSome=l.any fun e=>decide (f e=k)
 | []=>rfl
 | e::l=>by
  rw [List.map_cons,List.any_cons];by_cases z:f e=k
  ·rw [iW z];simp [z]
  ·rw [gN z,valV_some f k l];simp [z]
theorem landKey_iff {e:Nat×Nat}{p q:Nat}:eY e=eY (p,q)↔(e.1=p/\e.2=q)\/(e.1=q/\e.2=p):=by
 unfold eY;simp only [List.cons.injEq,Sum.inl.injEq,and_true];omega
theorem land_linked (l:List (Nat×Nat))(p q:Nat):(cF (l.map fun e=>(eY e,V.bl true)) (eY (p,q))).isSome=Vbsoaa.linked l p q:=by
 rw [valV_some eY];unfold Vbsoaa.linked;congr 1
 funext e
 refine Bool.eq_iff_iff.mpr ?_
 rw [decide_eq_true_eq,landKey_iff];simp
theorem codeKey_iff {x y:Nat}:codeKey x=codeKey y↔x=y:=by
 unfold codeKey;simp only [List.cons.injEq,Sum.inl.injEq,and_true];omega
theorem seaKey_iff {e:Nat×Nat}{p q:Nat}:iR e=iR (p,q)↔(e.1=p/\e.2=q)\/(e.1=q/\e.2=p):=by
 unfold iR;simp only [List.cons.injEq,codeKey_iff,and_true];omega
theorem sea_linked (l:List (Nat×Nat))(p q:Nat):(cF (l.map fun e=>(iR e,V.bl true)) (iR (p,q))).isSome=Vbsoaa.linked l p q:=by
 rw [valV_some iR];unfold Vbsoaa.linked;congr 1
 funext e
 refine Bool.eq_iff_iff.mpr ?_
 rw [decide_eq_true_eq,seaKey_iff];simp
def codeI (x:Nat):List Int:=[((x / 4:Nat):Int),((x % 4:Nat):Int)]
theorem lex_code (x y:Nat):OlTup.lexN (codeI x) (codeI y)=decide (x < y):=by
 unfold codeI;rw [OlTup.lexN_cons,OlTup.lexN_cons];by_cases h:((x / 4:Nat):Int)=((y / 4:Nat):Int)
 ·rw [if_pos h];by_cases h2:((x % 4:Nat):Int)=((y % 4:Nat):Int)
  ·rw [if_pos h2];have:¬ x < y:=by omega
   rw [decide_eq_false this];rfl
  ·rw [if_neg h2];exact decide_eq_decide.mpr (by omega)
 ·rw [if_neg h];exact decide_eq_decide.mpr (by omega)
theorem gE {p s:Nat}(h:s < 4):(codeKey (Vbsoaa.place p s)).map kV=[V.int (p:Int),V.int (s:Int)]:=by
 unfold Vbsoaa.place codeKey;have e1:(4*p+s) / 4=p:=by omega
 have e2:(4*p+s) % 4=s:=by omega
 rw [e1,e2];rfl
theorem sorted_eq:∀ {l m:List Int},l.Perm m->l.Pairwise (· <= ·)->m.Pairwise (· <= ·)->l=m
 | [],m,h,_,_=>(List.nil_perm.mp h).symm
 | a::l,[],h,_,_=>by
  have:=h.length_eq
  simp at this
 | a::l,b::m,h,h1,h2=>by
  have h1':=List.pairwise_cons.mp h1;have h2':=List.pairwise_cons.mp h2
  have hab:a=b:=by
   have ha:a∈b::m:=h.subset List.mem_cons_self
   have hb:b∈a::l:=h.symm.subset List.mem_cons_self
   rcases List.mem_cons.mp ha with e | ha
   ·exact e
   ·rcases List.mem_cons.mp hb with e | hb
    ·exact e.symm
    ·have:=h1'.1 b hb
     have:=h2'.1 a ha
     omega
  subst hab;rw [sorted_eq ((List.perm_cons a).mp h) h1'.2 h2'.2]
theorem men_sorted {t:Vbsoac.Table}(wf:WF t):(nI (t.men.map fun m=>m.prov)).Pairwise (· <= ·):=by
 unfold nI;rw [List.map_map,List.pairwise_map];refine wf.sorted.imp fun {a b} h=>?_
 simp only [Function.comp];omega
end Ol
end
section
namespace Ol
open PySem PySem.Spec PyProof.Rows L2
open Vbsoab Vbsoac
open Vbsoaa (Man Men Order place linked manAt)
def keysOf (l:Bytes):List Key:=l.map fun(n:Nat)=>Sum.inl (n:Int)
theorem keysOf_kV (l:Bytes):(keysOf l).map kV=bv l:=by
 unfold keysOf bv;rw [List.map_map];rfl
theorem keysOf_inj {a b:Bytes}(h:keysOf a=keysOf b):a=b:=by
 have:=congrArg (List.map kV) h
 rw [keysOf_kV,keysOf_kV,iV,iV] at this;exact nI_inj (int_inj this)
theorem distinct_iff:∀ ws:List Bytes,distinctWords ws=true↔(ws.map keysOf).Nodup
 | []=>by simp [distinctWords]
 | x::l=>by
  have ih:=distinct_iff l;rw [List.map_cons,List.nodup_cons,<-ih,show distinctWords (x::l)=(!l.contains x&&distinctWords l) from rfl,Bool.and_eq_true]
  refine and_congr_left fun _=>?_
  rw [Bool.not_eq_true',<-Bool.not_eq_true,List.contains_iff_mem];refine not_congr ⟨fun h=>List.mem_map.mpr ⟨x,h,rfl⟩,fun h=>?_⟩
  obtain⟨y,hy,e⟩:=List.mem_map.mp h;rw [<-keysOf_inj e];exact hy
def dC (k:Int)(ws:List Bytes):Bool:=ws.all shoreName&&(distinctWords ws&&(ws.length != 1&&(decide (ws.length<=4)&&(ws.isEmpty||k==2))))
theorem fit_nil (k:Int):dC k []=true:=by simp [dC,distinctWords]
theorem fit_no {k:Int}{ws:List Bytes}(h:ws≠[])(c:k≠2\/¬ (2<=ws.length/\ws.length<=4)):dC k ws=false:=by
 cases e:dC k ws with
 | false=>rfl
 | true =>
  unfold dC at e;simp only [Bool.and_eq_true,bne_iff_ne,decide_eq_true_eq,Bool.or_eq_true,List.isEmpty_iff,beq_iff_eq] at e;obtain⟨_,_,h1,h2,h3⟩:=e;have hl:0 < ws.length:=List.length_pos_iff.mpr h
  rcases c with c | c
  ·rcases h3 with h3 | h3
   ·exact absurd h3 h
   ·exact absurd h3 c
  ·exact absurd ⟨by omega,h2⟩ c
theorem fit_yes {k:Int}{ws:List Bytes}(hk:k=2)(h1:2<=ws.length)(h2:ws.length<=4):dC k ws=(ws.all shoreName&&distinctWords ws):=by
 unfold dC;have e1:(ws.length != 1)=true:=by simp;omega
 have e2:decide (ws.length<=4)=true:=decide_eq_true h2
 have e3:(ws.isEmpty||k==2)=true:=by simp [hk]
 rw [e1,e2,e3];simp
theorem provAt_snoc {l:List Province}{p:Province}{m m':Map}(h:m.provinces=l)(h':m'.provinces=l++[p]){i:Nat}(hi:i < l.length):provAt m' i=provAt m i:=by
 unfold provAt;rw [h,h',List.getD_eq_getElem?_getD,List.getD_eq_getElem?_getD,List.getElem?_append_left hi]
theorem provAt_last {l:List Province}{p:Province}{m':Map}(h':m'.provinces=l++[p]):provAt m' l.length=p:=by
 unfold provAt;rw [h',List.getD_eq_getElem?_getD,List.getElem?_append_right (Nat.le_refl _),Nat.sub_self];rfl
theorem shoresOf_eq {m m':Map}{i:Nat}(h:provAt m' i=provAt m i):shoresOf m' i=shoresOf m i:=by
 unfold shoresOf;rw [h]
theorem OrdOk.mono {t t':Vbsoac.Table}(hn:aF t<=aF t')(hs:∀ i,i < aF t->provAt t'.map i=provAt t.map i){f:Bool}:∀ {o:Order},OrdOk t f o->OrdOk t' f o
 | .hold,_=>trivial
 | .move p s w,h=>⟨Nat.lt_of_lt_of_le h.1 hn,by
   have:=h.2
   rw [shoresOf_eq (hs p h.1)]
   exact this⟩
 | .stay p,h=>Nat.lt_of_lt_of_le h hn
 | .aid p q,h=>⟨Nat.lt_of_lt_of_le h.1 hn,Nat.lt_of_lt_of_le h.2 hn⟩
 | .carry p q,h=>⟨Nat.lt_of_lt_of_le h.1 hn,Nat.lt_of_lt_of_le h.2 hn⟩
theorem ManOk.mono {t t':Vbsoac.Table}(hn:aF t<=aF t')(hs:∀ i,i < aF t->provAt t'.map i=provAt t.map i){m:Man}(h:ManOk t m):ManOk t' m where
 prov:=Nat.lt_of_lt_of_le h.prov hn
 shore:=by
  rw [shoresOf_eq (hs _ h.prov)];exact h.shore
 army:=fun z=>by
  rw [hs _ h.prov];exact h.army z
 ord:=h.ord.mono hn hs
theorem man_same {t t':Vbsoac.Table}(e:t'.map.provinces=t.map.provinces){m:Man}(h:ManOk t m):ManOk t' m:=h.mono (t':=t') (by unfold aF;rw [e];exact Nat.le_refl _) fun i _=>by unfold provAt;rw [e]
theorem PlaceOk.mono {t t':Vbsoac.Table}(hn:aF t<=aF t')(hs:∀ i,i < aF t->provAt t'.map i=provAt t.map i){x:Nat}(h:PlaceOk t x):PlaceOk t' x:=⟨Nat.lt_of_lt_of_le h.1 hn,by
 rw [shoresOf_eq (hs _ h.1)]
 exact h.2⟩
theorem exactly_none {m:Map}{w:Bytes}(h:¬ (exactly m w).isSome=true){i:Nat}(hi:i < m.provinces.length):called (provAt m i) w=false:=by
 unfold exactly at h;rw [List.findIdx?_isSome] at h;cases e:called (provAt m i) w with
 | false=>rfl
 | true=>exact absurd (List.any_eq_true.mpr ⟨_,List.mem_of_getElem? (cW hi),e⟩) h
theorem wf_province {t:Vbsoac.Table}(wf:WF t){p:Province}(hp:ProvOk p)(h1:p.name≠p.short)(h2:¬ (exactly t.map p.name).isSome=true)(h3:¬ (exactly t.map p.short).isSome=true)(h4:t.map.provinces.length < 40) :
  WF {t with map:={t.map with provinces:=t.map.provinces++[p]}}:=by
 have hn:aF t<=aF {t with map:={t.map with provinces:=t.map.provinces++[p]}}:=by
  show t.map.provinces.length<=(t.map.provinces++[p]).length
  rw [List.length_append];omega
 have hs:∀ i,i < aF t->provAt {t.map with provinces:=t.map.provinces++[p]} i=provAt t.map i:=fun i hi=>provAt_snoc rfl rfl hi
 have call:∀ i w,i < t.map.provinces.length->called (provAt t.map i) w=true->called p w=true->False:=fun i w hi c1 c2=>by
  unfold called at c2;rw [Bool.or_eq_true,beq_iff_eq,beq_iff_eq] at c2;rcases c2 with e | e
  ·subst e;rw [exactly_none h2 hi] at c1;cases c1
  ·subst e;rw [exactly_none h3 hi] at c1;cases c1
 refine⟨?_,?_,?_,wf.land,?_,wf.sea,?_,wf.men,wf.sorted,fun m hm=>(wf.man m hm).mono hn hs⟩
 ·show(t.map.provinces++[p]).length<=40
  rw [List.length_append];simp only [List.length_cons,List.length_nil];omega
 ·intro x hx;rcases List.mem_append.mp hx with hx | hx
  ·exact wf.prov x hx
  ·rw [List.mem_singleton.mp hx];exact hp
 ·intro i j w hi hj c1 c2;have hi':i < t.map.provinces.length+1:=by simpa using hi
  have hj':j < t.map.provinces.length+1:=by simpa using hj
  by_cases zi:i < t.map.provinces.length
  ·rw [show provAt _ i=_ from hs i zi] at c1
   by_cases zj:j < t.map.provinces.length
   ·rw [show provAt _ j=_ from hs j zj] at c2
    exact wf.once i j w zi zj c1 c2
   ·have e:j=t.map.provinces.length:=by omega
    subst e;rw [show provAt _ _=p from provAt_last rfl] at c2
    exact(call i w zi c1 c2).elim
  ·have e:i=t.map.provinces.length:=by omega
   subst e;rw [show provAt _ _=p from provAt_last rfl] at c1
   by_cases zj:j < t.map.provinces.length
   ·rw [show provAt _ j=_ from hs j zj] at c2
    exact(call j w zj c2 c1).elim
   ·omega
 ·intro e he;have:=wf.lands e he
  refine⟨?_,?_,Nat.lt_of_lt_of_le this.2.2.1 hn,Nat.lt_of_lt_of_le this.2.2.2 hn⟩
  ·rw [show provAt _ e.1=_ from hs e.1 this.2.2.1]
   exact this.1
  ·rw [show provAt _ e.2=_ from hs e.2 this.2.2.2]
   exact this.2.1
 ·intro e he;exact⟨(wf.seas e he).1.mono hn hs,(wf.seas e he).2.mono hn hs⟩
theorem wf_land {t:Vbsoac.Table}(wf:WF t){p q:Nat}(hp:p < aF t)(hq:q < aF t)(kp:(provAt t.map p).kind≠1)(kq:(provAt t.map q).kind≠1)(h:t.map.land.length < 300) :
  WF {t with map:={t.map with land:=t.map.land++[(p,q)]}} where
 few:=wf.few
 prov:=wf.prov
 once:=wf.once
 land:=by
  show(t.map.land++[(p,q)]).length<=300
  rw [List.length_append];simp only [List.length_cons,List.length_nil];omega
 lands:=fun e he=>by
  rcases List.mem_append.mp he with he | he
  ·exact wf.lands e he
  ·rw [List.mem_singleton.mp he];exact⟨kp,kq,hp,hq⟩
 sea:=wf.sea
 seas:=wf.seas
 men:=wf.men
 sorted:=wf.sorted
 man:=fun m hm=>by refine man_same ?_ (wf.man m hm);rfl
theorem wf_sea {t:Vbsoac.Table}(wf:WF t){x y:Nat}(hx:PlaceOk t x)(hy:PlaceOk t y)(h:t.map.sea.length < 300) :
  WF {t with map:={t.map with sea:=t.map.sea++[(x,y)]}} where
 few:=wf.few
 prov:=wf.prov
 once:=wf.once
 land:=wf.land
 lands:=wf.lands
 sea:=by
  show(t.map.sea++[(x,y)]).length<=300
  rw [List.length_append];simp only [List.length_cons,List.length_nil];omega
 seas:=fun e he=>by
  rcases List.mem_append.mp he with he | he
  ·exact wf.seas e he
  ·rw [List.mem_singleton.mp he];exact⟨hx,hy⟩
 men:=wf.men
 sorted:=wf.sorted
 man:=fun m hm=>by refine man_same ?_ (wf.man m hm);rfl
theorem wf_men {t:Vbsoac.Table}(wf:WF t){ms:Men}(h1:ms.length<=24)(h2:ms.Pairwise fun a b=>a.prov < b.prov)(h3:∀ m∈ms,ManOk t m):WF {t with men:=ms} where
 few:=wf.few
 prov:=wf.prov
 once:=wf.once
 land:=wf.land
 lands:=wf.lands
 sea:=wf.sea
 seas:=wf.seas
 men:=h1
 sorted:=h2
 man:=fun m hm=>by refine man_same ?_ (h3 m hm);rfl
theorem putMan_perm (m:Man):∀ l:Men,(putMan m l).Perm (m::l)
 | []=>.refl _
 | x::l=>by
  unfold putMan;split
  ·exact .refl _
  ·exact((putMan_perm m l).cons x).trans (.swap m x l)
theorem putMan_sorted (m:Man):∀ {l:Men},(l.Pairwise fun a b=>a.prov < b.prov)->(∀ x∈l,x.prov≠m.prov)->(putMan m l).Pairwise fun a b=>a.prov < b.prov
 | [],_,_=>by simp [putMan]
 | x::l,h,hn=>by
  obtain⟨h1,h2⟩:=List.pairwise_cons.mp h;unfold putMan;split
  ·rename_i z
   refine List.pairwise_cons.mpr ⟨fun y hy=>?_,h⟩
   rcases List.mem_cons.mp hy with rfl | hy
   ·exact z
   ·exact Nat.lt_trans z (h1 y hy)
  ·rename_i z
   refine List.pairwise_cons.mpr ⟨fun y hy=>?_,putMan_sorted m h2 fun y hy=>hn y (List.mem_cons_of_mem _ hy)⟩
   rcases List.mem_cons.mp ((putMan_perm m l).subset hy) with rfl | hy
   ·have:=hn x List.mem_cons_self
    omega
   ·exact h1 y hy
end Ol
end
section
namespace Ol
open PySem PySem.Spec PyProof.Rows L2
theorem xV {a:V}{p:V->Prop}:(∃ v,some (some a)=some (some v)/\p v)=p a:=propext ⟨fun⟨_,e,h⟩=>by cases e;exact h,fun h=>⟨_,rfl,h⟩⟩
theorem xI {a:Int}{p:Int->Prop}:(∃ i,V.int a=.int i/\p i)=p a:=propext ⟨fun⟨_,e,h⟩=>by cases e;exact h,fun h=>⟨_,rfl,h⟩⟩
theorem xB {a:Bool}{p:Bool->Prop}:(∃ i,V.bl a=.bl i/\p i)=p a:=propext ⟨fun⟨_,e,h⟩=>by cases e;exact h,fun h=>⟨_,rfl,h⟩⟩
theorem xJ {a b:Int}{p:Int->Int->Prop}:(∃ i j,V.int a=.int i/\V.int b=.int j/\p i j)=p a b:=propext ⟨fun⟨_,_,e,f,h⟩=>by cases e;cases f;exact h,fun h=>⟨_,_,rfl,rfl,h⟩⟩
theorem xF {a:Addr}{α β γ δ:Type}{p:Addr->α->β->γ->δ->Prop}:(∃ i x y z u,V.ref a=.ref i/\p i x y z u)=∃ x y z u,p a x y z u:=propext ⟨fun⟨_,_,_,_,_,e,h⟩=>by cases e;exact⟨_,_,_,_,h⟩,fun⟨_,_,_,_,h⟩=>⟨_,_,_,_,_,rfl,h⟩⟩
theorem xM {a:Addr}{α β:Type}{p:Addr->α->β->Prop}:(∃ i x y,V.ref a=.ref i/\p i x y)=∃ x y,p a x y:=propext ⟨fun⟨_,_,_,e,h⟩=>by cases e;exact⟨_,_,h⟩,fun⟨_,_,h⟩=>⟨_,_,_,rfl,h⟩⟩
theorem xX {a:Addr}{b:Int}{α β:Type}{p:Addr->α->Int->β->Prop}:(∃ i x j y,V.ref a=.ref i/\V.int b=.int j/\p i x j y)=∃ x y,p a x b y:=propext ⟨fun⟨_,_,_,_,e,f,h⟩=>by cases e;cases f;exact⟨_,_,h⟩,fun⟨_,_,h⟩=>⟨_,_,_,_,rfl,rfl,h⟩⟩
section
variable {α β:Type}{f:α->β}{a b:α}{l m:List α}{n:Nat}
theorem y1:List.map f (a::l)=f a::List.map f l:=rfl
theorem y2:List.map f []=[]:=rfl
theorem y3:a::l++m=a::(l++m):=rfl
theorem y4:[]++m=m:=rfl
theorem y5:(a::l).length=l.length+1:=rfl
theorem y6:([]:List α).length=0:=rfl
theorem y7:(a::l)[0]?=some a:=rfl
theorem y8:(a::l)[n+1]?=l[n]?:=rfl
theorem y9:(a::l).set 0 b=b::l:=rfl
theorem y10:(a::l).set (n+1) b=a::l.set n b:=rfl
end
end Ol
end
section
set_option maxHeartbeats 4000000
namespace Ol
open PySem PySem.Spec PyProof.Rows L2
abbrev SP := PySem.W.Frag → Program → World → Adr → Sp
variable {P : Program} {w : World} {K : PySem.W.Frag} {mg : Str → Option Value} {base : Heap} {ad : Adr} {H : Hp} {tb : Addr} {A : TAd} {t : Vbsoac.Table} {f : Addr} {fd : FuncData}
open Vbsoaa (Man place manAt linked reaches)
open Vbsoab (provAt word spaced boardOf named exactly great shoreName)
open Vbsoac (Table bit isText Call isProv orderNumbers shoresOf nats isShore shortOf unitWord isPower reading)
set_option hygiene false
local macro_rules | `(tactic| walk_at "s1")=>`(tactic| (refine bY fun k1 e1=>?_;walk_at "rd"))
local macro_rules | `(tactic| walk_at "c1")=>`(tactic| (rw [e1];clear e1 k1))
local macro_rules | `(tactic| walk_at "s2")=>`(tactic| (refine bY fun k2 e2=>?_;walk_at "rd"))
local macro_rules | `(tactic| walk_at "c2")=>`(tactic| (rw [e2];clear e2 k2))
local macro_rules | `(tactic| walk_at "s3")=>`(tactic| (refine bY fun k3 e3=>?_;walk_at "rd"))
local macro_rules | `(tactic| walk_at "c3")=>`(tactic| (rw [e3];clear e3 k3))
local macro_rules | `(tactic| walk_at "s4")=>`(tactic| (refine bY fun k4 e4=>?_;walk_at "rd"))
local macro_rules | `(tactic| walk_at "c4")=>`(tactic| (rw [e4];clear e4 k4))
local macro_rules | `(tactic| walk_at "s5")=>`(tactic| (refine bY fun k5 e5=>?_;walk_at "rd"))
local macro_rules | `(tactic| walk_at "c5")=>`(tactic| (rw [e5];clear e5 k5))
local macro_rules | `(tactic| walk_at "s6")=>`(tactic| (refine bY fun k6 e6=>?_;walk_at "rd"))
local macro_rules | `(tactic| walk_at "c6")=>`(tactic| (rw [e6];clear e6 k6))
local macro_rules | `(tactic| walk_at "s7")=>`(tactic| (refine bY fun k7 e7=>?_;walk_at "rd"))
local macro_rules | `(tactic| walk_at "c7")=>`(tactic| (rw [e7];clear e7 k7))
local macro_rules | `(tactic| walk_at "s8")=>`(tactic| (refine bY fun k8 e8=>?_;walk_at "rd"))
local macro_rules | `(tactic| walk_at "c8")=>`(tactic| (rw [e8];clear e8 k8))
local macro_rules | `(tactic| walk_at "s9")=>`(tactic| (refine bY fun k9 e9=>?_;walk_at "rd"))
local macro_rules | `(tactic| walk_at "c9")=>`(tactic| (rw [e9];clear e9 k9))
set_option hygiene true
theorem aR {X : Cx} {p pos : Pos} {e : Expr} {es : List Expr} {tt : TA} (hm : X.mg "len" = none) (ha : PA X (e :: es) tt) (hg : Gl X "len" := by rfl)
    (he : starEach (e :: es) X.env = (false, eval e X.env) :: starEach es X.env := by rfl) (hpl : (backTo pos (starEach es X.env)).any (·.1) = false := by rfl) : PE X (.Call (.Name "len" p) (e :: es) [] pos) (tCB (fun xs H Q => ∃ p ys, xs = [.ref p] ∧ (SqL X.K H p ys ∨ SqT X.K H p ys) ∧ Q (.int ys.length) H) tt) := bI (p := p) call_len_seq hg hm PySem.boot_len ha (by decide) (by decide) he hpl
local macro_rules | `(tactic| walk_at "rd")=>`(tactic| ((try dsimp only [L2.start,y1,y2,y5,y6,List.replicate,Nat.reduceAdd,Nat.reduceSub,y3,y4,cxOf,y9,y10,bX,tRet,tSeq,tNext,tIfS,tAndV,tOrV,tNotV,tAnd,tOr,tNot,tOp,tCB,tCons,tNil,tVar,tC,rI0,rEq,rNe,tTest,tB,tChain,tFld,tCall,tMeth,tMake,tDrop,tAsg,gJ,sFld,tTup,tLst,tIf,rIxL,rIxT,tYes,rAll,rAny,tBM,rAppend,rExtend,tSl,tPart,tNoPart,tIsN,tNotN,tBMT,rExtendT,tDIn,tDNotIn,tDGet,tDGet1,tDGet2,sDPut,tDPop1,y7,y8]);(try simp only [↓xV,↓xI,↓xB,↓xJ,↓xF,↓xM,↓xX,List.map_cons,List.map_nil,List.length_cons,List.length_nil,List.replicate,Nat.reduceAdd,Nat.reduceSub,List.cons_append,List.nil_append,List.append_nil,List.set_cons_zero,List.set_cons_succ,List.getElem?_cons_zero,List.getElem?_cons_succ,Option.some.injEq,V.int.injEq,V.ref.injEq,V.bl.injEq,V.str.injEq,List.cons.injEq,and_true,true_and,exists_eq_left',exists_eq_left,exists_and_left,exists_eq',decide_eq_true_eq,Bool.not_eq_true',decide_eq_false_iff_not])))
def inByte (i:Int):Bool:=decide (0<=i)&&decide (i<=255)
def sp_is_text:SP:=fun K P w ad vs H Q _=>∃ (a:Addr)(ns:List Int) (n:Int),vs=[.ref a,.int n]/\SqL K H a (ns.map V.int)/\ns.length<=sizeLine/\∀ H',Same H H'->Q (.bl (decide ((ns.length:Int)<=n)&&ns.all inByte)) H'
def kQ:SP:=fun K P w ad vs H Q _=>∃ (n:Int),vs=[.int n]/\Q (.bl (decide (65<=n)&&decide (n<=90))) H
def sp_is_power:SP:=fun K P w ad vs H Q _=>∃ (n:Int),vs=[.int n]/\Q (.bl (isPower n)) H
def small (i:Int):Bool:=decide (97<=i)&&decide (i<=122)
def plain (i:Int):Bool:=decide (32<=i)&&decide (i<=126)
def iX:SP:=fun K P w ad vs H Q _=>∃ (a:Addr)(ns:List Int),vs=[.ref a]/\SqT K H a (ns.map V.int)/\ns.length<=sizeLine/\∀ H',Same H H'->Q (.bl (ns.all small)) H'
def sp_is_printable:SP:=fun K P w ad vs H Q _=>∃ (a:Addr)(l:Bytes),vs=[.ref a]/\SqT K H a (bv l)/\l.length<=sizeLine/\∀ H',Same H H'->Q (.bl (l.all Vbsoab.plainByte)) H'
abbrev O_is_text:=DO "is_text" 1 ["row","longest"] sp_is_text
theorem ok_is_text (F:Fun K "is_text" "is_text" st_is_text f fd)(T:Txt K mg ad) :FnOk P w K mg base CX0 1 f fd ["row","longest"] (sp_is_text K P w ad):=by
 refine F.ok sc_is_text (fun vs H Q E h=>?_) (fun _ A _ s H vs Q E hr h=>?_)
 ·obtain⟨a,ns,n,rfl,_⟩:=h;rfl
 ·obtain⟨a,ns,n,rfl,hS,hz,k⟩:=h;refine⟨_,(sO (sR (pe_and (eB hU (aR T.n_len (pC (pv 0) pN)) (pv 1) (nMk _)) (jO (bI (cr_all rfl) rfl T.n_all PyProof.Rows.boot_all (pC (pe_lc rfl sc_is_text.nd (jX (pv 0)) (eT (own:=[("number",2)]) (show blkC ["row","longest","number"] (dS st_is_text) _ _=true by decide +kernel)) (fun _ _ _ _ _=>(cY (i:=2) sc_is_text.nd rfl (Or.inl rfl))) (fun _ _ _ _ _=>pts_nil) (fun _ _ _ _ _=>(hJ hU hU eJ (pv 2) eJ))) pN)))))),?_⟩
  walk_at "rd";refine⟨_,Or.inl hS,?_⟩
  rw [List.length_map];by_cases hn:(ns.length:Int)<=n
  ·rw [if_pos hn];refine lc_list1 (K:=K) (fun v=>.bl (inByte (toI v))) (fun R hR=>⟨_,rfl,_,rfl,⟨_,hS⟩,hR⟩) hS (by rw [List.length_map];exact hz) (fun i x H1 R hx s1 hR=>?_) (fun D H1 hD s1 hl=>?_)
   ·rw [List.getElem?_map] at hx;obtain⟨z,_,rfl⟩:=Option.map_eq_some_iff.mp hx;walk_at "rd";exact chain_bl (R:=fun v=>R v H1) (hR _ (Same.refl _))
   ·refine⟨D,rfl,ns.map inByte,?_,?_⟩
    ·refine SqL.of ?_
     rw [hl];simp [toI,Function.comp_def]
    ·have:=k H1 s1
     rw [decide_eq_true hn,Bool.true_and] at this;rw [List.all_map];exact this
  ·rw [if_neg hn];have:=k H (Same.refl _)
   rw [decide_eq_false hn] at this;exact this
abbrev O_is_great_letter:=DO "is_great_letter" 1 ["byte"] kQ
theorem ok_is_great_letter (F:Fun K "is_great_letter" "is_great_letter" fV f fd)(T:Txt K mg ad) :FnOk P w K mg base CX0 1 f fd ["byte"] (kQ K P w ad):=by
 refine F.ok sc_is_great_letter (fun vs H Q E h=>?_) (fun _ A _ s H vs Q E hr h=>?_)
 ·obtain⟨n,rfl,_⟩:=h;rfl
 ·obtain⟨n,rfl,k⟩:=h;refine⟨_,(sO (sR (hJ hU hU (eG rfl T.g_GREAT_A) (pv 0) (eG rfl T.g_GREAT_Z)))),?_⟩
  walk_at "rd";exact chain_bl (R:=fun v=>Q v H) k
abbrev O_is_power:=DO "is_power" 1 ["number"] sp_is_power
theorem ok_is_power (F:Fun K "is_power" "is_power" st_is_power f fd)(T:Txt K mg ad) :FnOk P w K mg base CX0 1 f fd ["number"] (sp_is_power K P w ad):=by
 refine F.ok sc_is_power (fun vs H Q E h=>?_) (fun _ A _ s H vs Q E hr h=>?_)
 ·obtain⟨n,rfl,_⟩:=h;rfl
 ·obtain⟨n,rfl,k⟩:=h;refine⟨_,(sO (sR (hJ hU hU eJ (pv 0) (eG rfl T.g_LAST_POWER)))),?_⟩
  walk_at "rd";exact chain_bl (R:=fun v=>Q v H) k
abbrev fH:=DO "are_small_letters" 1 ["text"] iX
theorem ok_are_small_letters (F:Fun K "are_small_letters" "are_small_letters" cR f fd)(T:Txt K mg ad) :FnOk P w K mg base CX0 1 f fd ["text"] (iX K P w ad):=by
 refine F.ok sc_are_small_letters (fun vs H Q E h=>?_) (fun _ A _ s H vs Q E hr h=>?_)
 ·obtain⟨a,ns,rfl,_⟩:=h;rfl
 ·obtain⟨a,ns,rfl,hS,hz,k⟩:=h;refine⟨_,(sO (sR (bI (cr_all rfl) rfl T.n_all PyProof.Rows.boot_all (pC (pe_lc rfl sc_are_small_letters.nd (pi_tup (pv 0)) (eT (own:=[("byte",1)]) (show blkC ["text","byte"] (dS cR) _ _=true by decide +kernel)) (fun _ _ _ _ _=>(cY (i:=1) sc_are_small_letters.nd rfl (Or.inl rfl))) (fun _ _ _ _ _=>pts_nil) (fun _ _ _ _ _=>(hJ hU hU (eG rfl T.g_SMALL_A) (pv 1) (eG rfl T.g_SMALL_Z)))) pN)))),?_⟩
  walk_at "rd";refine lc_tup1 (K:=K) (fun v=>.bl (small (toI v))) (fun R hR=>⟨_,rfl,_,rfl,⟨_,hS⟩,hR⟩) hS (by rw [List.length_map];exact hz) (fun i x H1 R hx s1 hR=>?_) (fun D H1 hD s1 hl=>?_)
  ·rw [List.getElem?_map] at hx;obtain⟨z,_,rfl⟩:=Option.map_eq_some_iff.mp hx;walk_at "rd";exact chain_bl (R:=fun v=>R v H1) (hR _ (Same.refl _))
  ·refine⟨D,rfl,ns.map small,?_,?_⟩
   ·refine SqL.of ?_
    rw [hl];simp [toI,Function.comp_def]
   ·rw [List.all_map];exact k H1 s1
abbrev O_is_printable:=DO "is_printable" 1 ["text"] sp_is_printable
theorem ok_is_printable (F:Fun K "is_printable" "is_printable" fQ f fd)(T:Txt K mg ad) :FnOk P w K mg base CX0 1 f fd ["text"] (sp_is_printable K P w ad):=by
 refine F.ok sc_is_printable (fun vs H Q E h=>?_) (fun _ A _ s H vs Q E hr h=>?_)
 ·obtain⟨a,l,rfl,_⟩:=h;rfl
 ·obtain⟨a,l,rfl,hS,hz,k⟩:=h;refine⟨_,(sO (sR (bI (cr_all rfl) rfl T.n_all PyProof.Rows.boot_all (pC (pe_lc rfl sc_is_printable.nd (pi_tup (pv 0)) (eT (own:=[("byte",1)]) (show blkC ["text","byte"] (dS fQ) _ _=true by decide +kernel)) (fun _ _ _ _ _=>(cY (i:=1) sc_is_printable.nd rfl (Or.inl rfl))) (fun _ _ _ _ _=>pts_nil) (fun _ _ _ _ _=>(hJ hU hU (eG rfl T.g_BLANK) (pv 1) (eG rfl T.g_LAST_PRINTABLE)))) pN)))),?_⟩
  walk_at "rd";refine lc_tup1 (K:=K) (fun v=>.bl (plain (toI v))) (fun R hR=>⟨_,rfl,_,rfl,⟨_,hS⟩,hR⟩) hS (by rw [aG];exact hz) (fun i x H1 R hx s1 hR=>?_) (fun D H1 hD s1 hl=>?_)
  ·rw [bv,List.getElem?_map] at hx;obtain⟨z,_,rfl⟩:=Option.map_eq_some_iff.mp hx;walk_at "rd";exact chain_bl (R:=fun v=>R v H1) (hR _ (Same.refl _))
  ·refine⟨D,rfl,l.map Vbsoab.plainByte,?_,?_⟩
   ·refine SqL.of ?_
    rw [hl,bv,List.map_map,List.map_map];congr 2
    refine List.map_congr_left fun n _=>?_
    simp only [Function.comp,toI,plain,Vbsoab.plainByte,V.bl.injEq];congr 1 <;> exact decide_eq_decide.mpr (by omega)
   ·rw [List.all_map];exact k H1 s1
theorem all_small (l:Bytes):(nI l).all small=l.all Vbsoab.little:=by
 unfold nI;rw [List.all_map];congr 1
 funext n
 unfold small Vbsoab.little;simp only [Function.comp];congr 1 <;> exact decide_eq_decide.mpr (by omega)
def greatSmall (l:Bytes):Bool:=great (l.headD 0)&&l.tail.all Vbsoab.little
def gU:SP:=fun K P w ad vs H Q _=>∃ (a:Addr)(l:Bytes),vs=[.ref a]/\SqT K H a (bv l)/\l≠[]/\l.length<=sizeLine/\∀ H',Same H H'->Q (.bl (greatSmall l)) H'
def sp_word (g:Bytes->Bool)(K:W.Frag)(P:Program)(w:World)(ad:Adr):Sp:=fun vs H Q _=>∃ (a:Addr)(l:Bytes),vs=[.ref a]/\SqT K H a (bv l)/\l.length<=sizeLine/\∀ H',Same H H'->Q (.bl (g l)) H'
abbrev sp_is_name:=sp_word (named 1 15)
abbrev sp_is_short_name:=sp_word (named 2 2)
abbrev sp_is_shore_name:=sp_word shoreName
abbrev dX:=DO "is_great_then_small" 2 ["text"] gU
theorem ok_is_great_then_small (F:Fun K "is_great_then_small" "is_great_then_small" dH f fd)(T:Txt K mg ad)(D_are_small_letters:fH P w K mg base ad)(D_is_great_letter:O_is_great_letter P w K mg base ad):FnOk P w K mg base CX0 2 f fd ["text"] (gU K P w ad):=by
 refine F.ok sc_is_great_then_small (fun vs H Q E h=>?_) (fun _ A _ s H vs Q E hr h=>?_)
 ·obtain⟨a,l,rfl,_⟩:=h;rfl
 ·obtain⟨a,l,rfl,hS,hn,hz,k⟩:=h;refine⟨_,(sO (sR (pe_and (eD D_is_great_letter hr (pC (aN cI (pv 0) eJ (fun _ _=>rfl)) pN)) (jO (eD D_are_small_letters hr (pC (cS sl_tup (pv 0) (dL eJ) eX) pN)))))),?_⟩
  walk_at "rd"
  obtain⟨c,r,rfl⟩:∃ c r,l=c::r:=by
   cases l with
   | nil=>exact absurd rfl hn
   | cons c r=>exact⟨c,r,rfl⟩
  refine⟨_,hS,_,aV (j:=0) rfl,(c:Int),rfl,_,rfl,?_⟩
  have eg:(decide (65<=(c:Int))&&decide ((c:Int)<=90))=great c:=by
   unfold great;congr 1 <;> exact decide_eq_decide.mpr (by omega)
  rw [eg];by_cases hg:great c=true
  ·rw [if_pos hg]
   have e1:HT.sIx (bv (c::r)).length 0 (some 1)=1:=by
    rw [aG];have h1:=HT.sIx_nat (c::r).length 0 1;have h2:min 1 (c::r).length=1:=by rw [List.length_cons];omega
    exact h1.trans h2
   have e2:HT.sIx (bv (c::r)).length (bv (c::r)).length none=(bv (c::r)).length:=rfl
   have ec:kC (bv (c::r)) (some 1) none=bv r:=by
    unfold kC;rw [e1,e2,aG];show(bv r).take ((c::r).length - 1)=bv r
    rw [List.length_cons,Nat.add_sub_cancel,<-aG r,List.take_length]
   refine⟨a,_,rfl,hS,(by rw [e1];intro q;exact absurd q.1 (by decide)),fun p hp=>?_⟩
   rw [ec];refine⟨p,nI r,rfl,SqT.of (by rw [uS,iV]),by rw [nI_len];rw [List.length_cons] at hz;omega,fun H' s'=>?_⟩
   rw [all_small];have:=k H' ((Same.new hp).trans s')
   unfold greatSmall at this;rw [List.headD_cons,hg,Bool.true_and] at this;exact this
  ·have hg':great c=false:=by simpa using hg
   rw [if_neg hg];have:=k H (Same.refl H)
   unfold greatSmall at this;rw [List.headD_cons,hg',Bool.false_and] at this;exact this
theorem named_eq (lo hi:Nat)(l:Bytes):named lo hi l=(decide (lo+1<=l.length/\l.length<=hi+1)&&greatSmall l):=by
 cases l with
 | nil=>simp [named]
 | cons c r =>
  show(great c&&(decide (lo<=r.length)&&(decide (r.length<=hi)&&r.all Vbsoab.little)))=(decide (lo+1<=r.length+1/\r.length+1<=hi+1)&&(great c&&r.all Vbsoab.little))
  have e:decide (lo+1<=r.length+1/\r.length+1<=hi+1)=(decide (lo<=r.length)&&decide (r.length<=hi)):=by
   rw [<-Bool.decide_and];exact decide_eq_decide.mpr (by omega)
  rw [e];cases great c <;> cases decide (lo<=r.length) <;> cases decide (r.length<=hi) <;> rfl
abbrev O_is_name:=DO "is_name" 3 ["text"] sp_is_name
theorem ok_is_name (F:Fun K "is_name" "is_name" st_is_name f fd)(T:Txt K mg ad)(D_is_great_then_small:dX P w K mg base ad):FnOk P w K mg base CX0 3 f fd ["text"] (sp_is_name K P w ad):=by
 refine F.ok sc_is_name (fun vs H Q E h=>?_) (fun _ A _ s H vs Q E hr h=>?_)
 ·obtain⟨a,l,rfl,_⟩:=h;rfl
 ·obtain⟨a,l,rfl,hS,hz,k⟩:=h;refine⟨_,(sO (sR (pe_and (hJ hU hU eJ (aR T.n_len (pC (pv 0) pN)) (eG rfl T.g_LONGEST_NAME)) (jO (eD D_is_great_then_small hr (pC (pv 0) pN)))))),?_⟩
  walk_at "rd";refine⟨_,.inr hS,?_⟩
  rw [aG];rw [named_eq] at k;by_cases h1:(2:Int)<=(l.length:Int)
  ·rw [if_pos h1];by_cases h2:(l.length:Int)<=16
   ·rw [if_pos h2];refine⟨a,l,rfl,hS,fun e=>by rw [e] at h1;exact absurd h1 (by decide),hz,fun H' s'=>?_⟩
    have:=k H' s'
    rw [decide_eq_true (by omega),Bool.true_and] at this;exact this
   ·rw [if_neg h2];have:=k H (Same.refl H)
    rw [decide_eq_false (by omega),Bool.false_and] at this;exact this
  ·rw [if_neg h1];have:=k H (Same.refl H)
   rw [decide_eq_false (by omega),Bool.false_and] at this;exact this
abbrev O_is_short_name:=DO "is_short_name" 3 ["text"] sp_is_short_name
theorem ok_is_short_name (F:Fun K "is_short_name" "is_short_name" iL f fd)(T:Txt K mg ad)(D_is_great_then_small:dX P w K mg base ad):FnOk P w K mg base CX0 3 f fd ["text"] (sp_is_short_name K P w ad):=by
 refine F.ok sc_is_short_name (fun vs H Q E h=>?_) (fun _ A _ s H vs Q E hr h=>?_)
 ·obtain⟨a,l,rfl,_⟩:=h;rfl
 ·obtain⟨a,l,rfl,hS,hz,k⟩:=h;refine⟨_,(sO (sR (pe_and (eB aM (aR T.n_len (pC (pv 0) pN)) (eG rfl T.g_SHORT_NAME) (nMk _)) (jO (eD D_is_great_then_small hr (pC (pv 0) pN)))))),?_⟩
  walk_at "rd";refine⟨_,.inr hS,rfl,?_⟩
  rw [aG];rw [named_eq] at k;by_cases h1:(l.length:Int)=3
  ·rw [if_pos h1];refine⟨a,l,rfl,hS,fun e=>by rw [e] at h1;exact absurd h1 (by decide),hz,fun H' s'=>?_⟩
   have:=k H' s'
   rw [decide_eq_true (by omega),Bool.true_and] at this;exact this
  ·rw [if_neg h1];have:=k H (Same.refl H)
   rw [decide_eq_false (by omega),Bool.false_and] at this;exact this
abbrev O_is_shore_name:=DO "is_shore_name" 2 ["text"] sp_is_shore_name
theorem ok_is_shore_name (F:Fun K "is_shore_name" "is_shore_name" iM f fd)(T:Txt K mg ad)(D_are_small_letters:fH P w K mg base ad):FnOk P w K mg base CX0 2 f fd ["text"] (sp_is_shore_name K P w ad):=by
 refine F.ok sc_is_shore_name (fun vs H Q E h=>?_) (fun _ A _ s H vs Q E hr h=>?_)
 ·obtain⟨a,l,rfl,_⟩:=h;rfl
 ·obtain⟨a,l,rfl,hS,hz,k⟩:=h;refine⟨_,(sO (sR (pe_and (hJ hU hU eJ (aR T.n_len (pC (pv 0) pN)) (eG rfl T.g_LONGEST_SHORE_NAME)) (jO (eD D_are_small_letters hr (pC (pv 0) pN)))))),?_⟩
  walk_at "rd";refine⟨_,.inr hS,?_⟩
  rw [aG];unfold shoreName at k;by_cases h1:(1:Int)<=(l.length:Int)
  ·rw [if_pos h1];by_cases h2:(l.length:Int)<=8
   ·rw [if_pos h2];refine⟨a,nI l,rfl,by rw [<-iV];exact hS,by rw [nI_len];exact hz,fun H' s'=>?_⟩
    have:=k H' s'
    rw [decide_eq_true (by omega),decide_eq_true (by omega),Bool.true_and,Bool.true_and] at this;rw [all_small];exact this
   ·rw [if_neg h2];have:=k H (Same.refl H)
    rw [decide_eq_false (show ¬ l.length<=8 by omega),Bool.false_and,Bool.and_false] at this
    exact this
  ·rw [if_neg h1];have:=k H (Same.refl H)
   rw [decide_eq_false (show ¬ 1<=l.length by omega),Bool.false_and] at this
   exact this
def cpsOf (z:Str):Bytes:=z.cps.toList
def sp_spelled:SP:=fun K P w ad vs H Q _=>∃ (z:Str),vs=[.str z]/\z.cps.size<=100/\∀ (p:Addr)(H':Hp),Same H H'->H p=none->H' p=some (.tup (bv (cpsOf z)))->Q (.ref p) H'
def sp_parts_of:SP:=fun K P w ad vs H Q _=>∃ (a:Addr)(l:Bytes)(c:Nat),vs=[.ref a,.int c]/\(SqL K H a (bv l)\/SqT K H a (bv l))/\l.length < sizeLine /\
 ∀ (D:Addr)(qs:List Addr)(H':Hp),Same H H'->H D=none->H' D=some (.lst (qs.map V.ref))->WordsAt H' (cA c l) qs->Q (.ref D) H'
def sp_lines_of:SP:=fun K P w ad vs H Q _=>∃ (a:Addr)(l:Bytes),vs=[.ref a]/\SqL K H a (bv l)/\l.length < sizeLine /\
 ∀ (D:Addr)(qs:List Addr)(H':Hp),Same H H'->H D=none->H' D=some (.lst (qs.map V.ref))->WordsAt H' (Vbsoab.linesOf l) qs->Q (.ref D) H'
def sp_words_of:SP:=fun K P w ad vs H Q _=>∃ (a:Addr)(l:Bytes),vs=[.ref a]/\(SqL K H a (bv l)\/SqT K H a (bv l))/\l.length < sizeLine /\
 ∀ (D:Addr)(qs:List Addr)(H':Hp),Same H H'->H D=none->H' D=some (.lst (qs.map V.ref))->WordsAt H' (Vbsoab.wordsOf l) qs->Q (.ref D) H'
def PInv (H:Hp)(a D:Addr)(c:Nat)(l:Bytes)(i:Nat)(σ:L2.St)(H':Hp):Prop :=
 ∃ (C:Addr)(v:Option V)(qs:List Addr),σ=[some (.ref a),some (.int c),some (.ref D),some (.ref C),v]/\Same H H'/\C≠D/\H C=none /\
   H' D=some (.lst (qs.map V.ref))/\H' C=some (.lst (bv ((l.take i).foldl (cM c) ([],[])).2))/\WordsAt H' ((l.take i).foldl (cM c) ([],[])).1 qs
abbrev gM:=DO "spelled" 1 ["word"] sp_spelled
theorem ok_spelled (F:Fun K "spelled" "spelled" st_spelled f fd)(T:Txt K mg ad) :FnOk P w K mg base CX0 1 f fd ["word"] (sp_spelled K P w ad):=by
 refine F.ok sc_spelled (fun vs H Q E h=>?_) (fun _ A _ s H vs Q E hr h=>?_)
 ·obtain⟨z,rfl,_⟩:=h;rfl
 ·obtain⟨z,rfl,hz,k⟩:=h;refine⟨_,(sO (sR (gI dP rfl T.n_tuple PyProof.Rows.boot_tuple (pC (pe_lc rfl sc_spelled.nd (pi_str (pv 0)) (eT (own:=[("sign",1)]) (show blkC ["word","sign"] (dS st_spelled) _ _=true by decide +kernel)) (fun _ _ _ _ _=>(cY (i:=1) sc_spelled.nd rfl (Or.inl rfl))) (fun _ _ _ _ _=>pts_nil) (fun _ _ _ _ _=>(bI call_ord rfl T.n_ord PyProof.Rows.boot_ord (pC (pv 1) pN)))) pN)))),?_⟩
  walk_at "rd";refine lc_strF (fun i=>.int ((z.cps.getD i 0:Nat):Int)) (fun R hR=>⟨_,rfl,_,rfl,hR⟩) (Nat.le_trans hz (by decide)) (fun i c H1 R hc s1 hR=>?_) (fun D H1 hD s1 hl=>?_)
  ·walk_at "rd";refine⟨rfl,?_⟩
   have e:z.cps.getD i 0=c:=by rw [Array.getD_eq_getD_getElem?,hc];rfl
   have:=hR H1 (Same.refl _)
   rw [e] at this;exact this
  ·have e:(List.range z.cps.size).map (fun i=>V.int ((z.cps.getD i 0:Nat):Int))=bv (cpsOf z):=by
    refine List.ext_getElem? fun i=>?_
    unfold bv cpsOf;by_cases hi:i < z.cps.size
    ·simp [hi,List.getElem?_range]
    ·rw [List.getElem?_eq_none (by simp;omega),List.getElem?_eq_none (by simp;omega)]
   rw [e] at hl;refine⟨D,rfl,_,.inl ⟨SqL.of hl,fun p hp=>?_⟩⟩
   exact k p _ (s1.upd (s1.free hp)) (s1.free hp) uS
abbrev O_parts_of:=DO "parts_of" 1 ["text","between"] sp_parts_of
theorem ok_parts_of (F:Fun K "parts_of" "parts_of" st_parts_of f fd)(T:Txt K mg ad) :FnOk P w K mg base CX0 1 f fd ["text","between"] (sp_parts_of K P w ad):=by
 refine F.ok sc_parts_of (fun vs H Q E h=>?_) (fun _ A _ s H vs Q E hr h=>?_)
 ·obtain⟨a,l,c,rfl,_⟩:=h;rfl
 ·obtain⟨a,l,c,rfl,hS,hz,k⟩:=h
  refine⟨_,(sC (aD (i:=2) sc_parts_of.nd rfl (Or.inl rfl) (aT pN))
   (sC (aD (i:=3) sc_parts_of.nd rfl (Or.inl rfl) (aT pN))
   (sC (ps_for PassesOwn.never rfl (pi_seq (pv 0)) (cY (i:=4) sc_parts_of.nd rfl (Or.inl rfl)) (sO (aB (tR aM (pv 4) (pv 1) (nMk _)) (sC (bZ (jA PySem.F.plainAttrs_list PySem.F.slot_list_append PySem.F.type_list_append dA (pv 2) (pC (gI dP rfl T.n_tuple PyProof.Rows.boot_tuple (pC (pv 3) pN)) pN)))
   (sO (aD (i:=3) sc_parts_of.nd rfl (Or.inl rfl) (aT pN)))) (sO (bZ (jA PySem.F.plainAttrs_list PySem.F.slot_list_append PySem.F.type_list_append dA (pv 3) (pC (pv 4) pN)))))))
   (sC (bZ (jA PySem.F.plainAttrs_list PySem.F.slot_list_append PySem.F.type_list_append dA (pv 2) (pC (gI dP rfl T.n_tuple PyProof.Rows.boot_tuple (pC (pv 3) pN)) pN)))
   (sO (sR (pv 2))))))),?_⟩
  walk_at "rd";refine⟨Nat.zero_le _,fun D hD=>⟨Nat.zero_le _,fun C hC=>?_⟩⟩
  have hCD:C≠D:=fun e=>by rw [e,uS] at hC;cases hC
  have hC0:H C=none:=by rw [uN hCD] at hC;exact hC
  have s2:Same H (upd (upd H D (.lst [])) C (.lst [])):=(Same.new hD).upd hC0
  have h0:PInv H a D c l 0 [some (.ref a),some (.int c),some (.ref D),some (.ref C),none] (upd (upd H D (.lst [])) C (.lst [])) :=
   ⟨C,none,[],rfl,s2,hCD,hC0,by rw [uN (Ne.symm hCD),uS];rfl,uS,.nil⟩
  refine⟨_,rfl,a,rfl,for_seq (K:=K) (a:=a) (xs:=bv l) hS (PInv H a D c l) h0 (fun i σ H' _ ⟨_,_,_,_,s5,_⟩=>⟨s5.seq,s5.tup⟩) ?_ ?_⟩
  ·rintro i y σ H' hi ⟨C,v,qs,rfl,s5,hCD,hC0,h1,h2,h3⟩
   obtain⟨b,hb,rfl⟩:∃ b,l[i]?=some b/\V.int ((b:Nat):Int)=y:=by
    unfold bv at hi;rw [List.getElem?_map] at hi;exact Option.map_eq_some_iff.mp hi
   have hlt:=(List.getElem?_eq_some_iff.mp hb).1;have hlen:=pstep_len c (l.take i) [] [];rw [List.length_take] at hlen;simp only [List.length_nil,Nat.zero_add] at hlen
   have hqs:qs.length<=i:=by
    rw [<-Paired.length h3];omega
   have hcu:((l.take i).foldl (cM c) ([],[])).2.length<=i:=by omega
   have hfold:(l.take (i+1)).foldl (cM c) ([],[])=cM c ((l.take i).foldl (cM c) ([],[])) b:=by rw [cG hb,List.foldl_append];rfl
   have fin:∀ (C:Addr)(v:Option V)(qs:List Addr)(H':Hp),Same H H'->C≠D->H C=none->H' D=some (.lst (qs.map V.ref))->H' C=some (.lst (bv (cM c ((l.take i).foldl (cM c) ([],[])) b).2))->WordsAt H' (cM c ((l.take i).foldl (cM c) ([],[])) b).1 qs ->
     PInv H a D c l (i+1) [some (.ref a),some (.int c),some (.ref D),some (.ref C),v] H':=fun C v qs H' a1 a2 a3 a4 a5 a6=>⟨C,v,qs,rfl,a1,a2,a3,a4,by rw [hfold];exact a5,by rw [hfold];exact a6⟩
   generalize (l.take i).foldl (cM c) ([],[])=st at *;obtain⟨ws,cur⟩:=st;walk_at "rd";refine⟨rfl,?_⟩
   by_cases e:b=c
   ·rw [if_pos (by rw [e])]
    have ew:cM c (ws,cur) b=(ws++[cur],[]):=by simp [cM,e]
    rw [ew] at fin;refine⟨tyl h1,_,.inl ⟨SqL.of h2,fun p hp=>⟨_,by rw [uN (nN h1 hp)];exact h1,by rw [List.length_map];omega,Nat.zero_le _,fun C2 hC2=>?_⟩⟩⟩
    have q1:C2≠D:=fun z=>by rw [z,uS] at hC2;cases hC2
    have q2:p≠D:=fun z=>nN h1 hp z.symm
    have q3:C2≠p:=fun z=>by rw [z,uN q2,uS] at hC2;cases hC2
    have hC2':H' C2=none:=by rw [uN q1,uN q3] at hC2;exact hC2
    have sp:Same H (upd H' p (.tup (bv cur))):=s5.upd (s5.free hp)
    refine fin C2 _ (qs++[p]) _ ((sp.upd hD).upd (s5.free hC2')) q1 (s5.free hC2') ?_ uS ?_
    ·rw [uN (Ne.symm q1),uS,List.map_append];rfl
    ·have st:∀ b xs,H' b=some (.tup xs)->upd (upd (upd H' p (.tup (bv cur))) D (.lst (qs.map V.ref++[V.ref p]))) C2 (.lst []) b=some (.tup xs):=fun b xs z=>by
      rw [uN (nN z hC2'),uN (bB z h1 (by intro q;cases q)),uN (nN z hp)]
      exact z
     refine Paired.snoc ?_ (h3.mono st)
     rw [uN (Ne.symm q3),uN q2,uS]
   ·have e2:¬ (b:Int)=c:=by omega
    rw [if_neg e2];have ew:cM c (ws,cur) b=(ws,cur++[b]):=by simp [cM,e]
    rw [ew] at fin;refine⟨tyl h2,_,h2,by rw [aG];simp only at hcu;omega,fin C _ qs _ (s5.upd hC0) hCD hC0 (by rw [uN (Ne.symm hCD)];exact h1) (by rw [uS,bv_app];rfl) (h3.mono fun b xs z=>?_)⟩
    rw [uN (bB z h2 (by intro q;cases q))]
    exact z
  ·rintro σ H2 ⟨C,v,qs,rfl,s5,hCD,hC0,h1,h2,h3⟩
   rw [aG,List.take_length] at h2 h3;have hw:=parts_all c l;have hlen:=pstep_len c l [] [];generalize l.foldl (cM c) ([],[])=st at *;obtain⟨ws,cur⟩:=st;simp only [List.length_nil,Nat.zero_add] at hlen;walk_at "rd";have hqs:qs.length<=l.length:=by rw [<-Paired.length h3];exact hlen.1
   refine⟨tyl h1,_,.inl ⟨SqL.of h2,fun p hp=>⟨_,by rw [uN (nN h1 hp)];exact h1,by rw [List.length_map];omega,?_⟩⟩⟩
   have q2:p≠D:=fun z=>nN h1 hp z.symm
   refine k D (qs++[p]) _ ((s5.upd (s5.free hp)).upd hD) hD (by rw [uS,List.map_append];rfl) ?_
   rw [<-hw];refine Paired.snoc (by rw [uN q2,uS]) (h3.mono fun b xs z=>?_)
   rw [uN (bB z h1 (by intro q;cases q)),uN (nN z hp)]
   exact z
def sp_line_of:SP:=fun K P w ad vs H Q _=>∃ (a:Addr)(ws:List Bytes)(qs:List Addr),vs=[.ref a]/\SqL K H a (qs.map V.ref)/\WordsAt H ws qs/\(∀ x∈ws,x≠[]/\x.length<=1000)/\ws.length<=1000 /\
 ∀ (D:Addr)(H':Hp),Same H H'->H D=none->H' D=some (.lst (bv (spaced ws++[10])))->Q (.ref D) H'
theorem spaced_len:∀ (ws:List Bytes),(∀ x∈ws,x.length<=1000)->(spaced ws).length<=ws.length*1001
 | [],_=>by simp [spaced]
 | [x],h=>by
  have:=h x List.mem_cons_self
  simp only [spaced,List.length_cons,List.length_nil];omega
 | x::y::r,h=>by
  have h1:=h x List.mem_cons_self;have ih:=spaced_len (y::r) (fun z hz=>h z (List.mem_cons_of_mem _ hz))
  simp only [spaced,List.length_append,List.length_cons] at ih ⊢;omega
theorem spaced_snoc:∀ (ws:List Bytes)(p:Bytes),spaced (ws++[p])=(if ws=[] then p else spaced ws++[32]++p)
 | [],p=>by simp [spaced]
 | [x],p=>by simp [spaced]
 | x::y::r,p=>by
  have ih:=spaced_snoc (y::r) p;rw [if_neg (by simp)] at ih;rw [if_neg (by simp)];show spaced (x::y::(r++[p]))=_
  have e1:spaced (x::y::(r++[p]))=x++(32::spaced (y::(r++[p]))):=rfl
  have e2:spaced (x::y::r)=x++(32::spaced (y::r)):=rfl
  have ih':spaced (y::(r++[p]))=spaced (y::r)++[32]++p:=ih
  rw [e1,ih',e2];simp
theorem spaced_pos:∀ {ws:List Bytes},(∀ x∈ws,x≠[])->ws≠[]->0 < (spaced ws).length
 | [],_,h=>absurd rfl h
 | [x],h,_=>List.length_pos_iff.mpr (h x List.mem_cons_self)
 | x::y::r,h,_=>by
  have e2:spaced (x::y::r)=x++(32::spaced (y::r)):=rfl
  rw [e2,List.length_append,List.length_cons];omega
abbrev O_lines_of:=DO "lines_of" 2 ["text"] sp_lines_of
theorem ok_lines_of (F:Fun K "lines_of" "lines_of" st_lines_of f fd)(T:Txt K mg ad)(D_parts_of:O_parts_of P w K mg base ad):FnOk P w K mg base CX0 2 f fd ["text"] (sp_lines_of K P w ad):=by
 refine F.ok sc_lines_of (fun vs H Q E h=>?_) (fun _ A _ s H vs Q E hr h=>?_)
 ·obtain⟨a,l,rfl,_⟩:=h;rfl
 ·obtain⟨a,l,rfl,hS,hz,k⟩:=h;refine⟨_,(sO (sR (eD D_parts_of hr (pC (pv 0) (pC (eG rfl T.g_LINE_END) pN))))),?_⟩
  walk_at "rd";refine⟨a,l,10,rfl,.inl hS,hz,fun D qs H' s1 hD h1 h2=>k D qs H' s1 hD h1 ?_⟩
  rw [lines_parts];exact h2
abbrev O_words_of:=DO "words_of" 2 ["text"] sp_words_of
theorem ok_words_of (F:Fun K "words_of" "words_of" st_words_of f fd)(T:Txt K mg ad)(D_parts_of:O_parts_of P w K mg base ad):FnOk P w K mg base CX0 2 f fd ["text"] (sp_words_of K P w ad):=by
 refine F.ok sc_words_of (fun vs H Q E h=>?_) (fun _ A _ s H vs Q E hr h=>?_)
 ·obtain⟨a,l,rfl,_⟩:=h;rfl
 ·obtain⟨a,l,rfl,hS,hz,k⟩:=h;refine⟨_,(sO (sR (pe_lc rfl sc_words_of.nd (jX (eD D_parts_of hr (pC (pv 0) (pC (eG rfl T.g_BLANK) pN)))) (eT (own:=[("part",1)]) (show blkC ["text","part"] (dS st_words_of) _ _=true by decide +kernel)) (fun _ _ _ _ _=>(cY (i:=1) sc_words_of.nd rfl (Or.inl rfl))) (fun _ _ _ _ _=>(pts_one (tR op_gt (bI (call_len_seqK (K:=K) rfl) rfl T.n_len PySem.boot_len (pC (pv 1) pN)) eJ (nMk _)))) (fun _ _ _ _ _=>(pv 1))))),?_⟩
  walk_at "rd";refine⟨_,rfl,a,l,32,rfl,hS,hz,fun D0 qs H1 s1 hD0 h1 h2=>⟨_,rfl,⟨_,SqL.of h1⟩,?_⟩⟩
  have hlen:(cA 32 l).length=qs.length:=Paired.length h2
  have hl1:=parts_len 32 l;refine lc_listF (wi:=fun _ _ R=>R (Itl K D0) H1) (H0:=H1) (K:=K) (a:=D0) (xs:=qs.map V.ref) (fun i=>((cA 32 l)[i]?).any fun x=>x != []) (fun i=>((qs.map V.ref)[i]?).getD .non) (fun R hR=>hR) (SqL.of h1) (by rw [List.length_map];omega) (fun i x H2 R hx s2 hR=>?_) (fun i x H2 R hx z s2 hR=>?_) (fun D H2 hD s2 hl=>?_)
  ·rw [List.getElem?_map] at hx;obtain⟨q,hq,rfl⟩:=Option.map_eq_some_iff.mp hx;obtain⟨p,hp,hpq⟩:=Paired.ta_ h2 hq;walk_at "rd";refine⟨_,.inr (SqT.of (s2 _ _ hpq)),?_⟩
   have:=hR H2 (Same.refl _)
   rw [hp] at this;rw [aG]
   have e:(p != [])=decide (0 < (p.length:Int)):=by
    cases p with
    | nil=>rfl
    | cons b r=>simp
   simp only [Option.any_some] at this;rw [e] at this;exact this
  ·walk_at "rd";have:=hR H2 (Same.refl _)
   rw [hx] at this;exact this
  ·rw [List.length_map] at hl;have e:=sel_range (fun x=>x != []) (fun o=>((o.map V.ref).getD .non)) (cA 32 l) qs hlen
   have e2:(fun(i:Nat)=>((qs.map V.ref)[i]?).getD V.non)=fun(i:Nat)=>((qs[i]?).map V.ref).getD V.non:=by
    funext i
    rw [List.getElem?_map]
   rw [e2,e] at hl;refine k D (sel (fun x=>x != []) (cA 32 l) qs) H2 (s1.trans s2) (s1.free hD) ?_ ?_
   ·rw [hl];rfl
   ·unfold Vbsoab.wordsOf;rw [wordsIn_parts];exact sel_paired _ (h2.mono fun b xs z=>s2 _ _ z)
abbrev O_line_of:=DO "line_of" 1 ["words"] sp_line_of
theorem ok_line_of (F:Fun K "line_of" "line_of" st_line_of f fd)(T:Txt K mg ad) :FnOk P w K mg base CX0 1 f fd ["words"] (sp_line_of K P w ad):=by
 refine F.ok sc_line_of (fun vs H Q E h=>?_) (fun _ A _ s H vs Q E hr h=>?_)
 ·obtain⟨a,ws,qs,rfl,_⟩:=h;rfl
 ·obtain⟨a,ws,qs,rfl,hS,hw,hne,hlen,k⟩:=h;have hql:ws.length=qs.length:=Paired.length hw
  refine⟨_,(sC (aD (i:=1) sc_line_of.nd rfl (Or.inl rfl) (aT pN))
   (sC (ps_for PassesOwn.never rfl (jX (pv 0)) (cY (i:=2) sc_line_of.nd rfl (Or.inl rfl)) (sC (aB (tR op_gt (aR T.n_len (pC (pv 1) pN)) eJ (nMk _)) (sO (bZ (jA PySem.F.plainAttrs_list PySem.F.slot_list_append PySem.F.type_list_append dA (pv 1) (pC (eG rfl T.g_BLANK) pN)))) sN)
   (sO (bZ (jA PySem.F.plainAttrs_list PySem.F.slot_list_extend PySem.F.type_list_extend mt_extendT (pv 1) (pC (pv 2) pN))))))
   (sC (bZ (jA PySem.F.plainAttrs_list PySem.F.slot_list_append PySem.F.type_list_append dA (pv 1) (pC (eG rfl T.g_LINE_END) pN)))
   (sO (sR (pv 1)))))),?_⟩
  walk_at "rd";refine⟨Nat.zero_le _,fun D hD=>?_⟩
  refine⟨_,rfl,a,rfl,⟨_,(Same.new hD).seq hS⟩,for_list (K:=K) (a:=a) (xs:=qs.map V.ref) (fun i σ H'=>∃ v,σ=[some (.ref a),some (.ref D),v]/\Same H H'/\H' D=some (.lst (bv (spaced (ws.take i))))) ⟨none,rfl,Same.new hD,by rw [uS];rfl⟩ (fun i σ H' _ ⟨_,_,s5,_⟩=>s5.seq hS) ?_ ?_⟩
  ·rintro i x σ H' hx ⟨v,rfl,s5,h1⟩
   rw [List.getElem?_map] at hx;obtain⟨q,hq,rfl⟩:=Option.map_eq_some_iff.mp hx;obtain⟨p,hp,hpq⟩:=Paired.ta_ hw hq;have hlt:=(List.getElem?_eq_some_iff.mp hp).1;have hsl:=spaced_len (ws.take i) (fun x hx=>(hne x (List.mem_of_mem_take hx)).2)
   rw [List.length_take] at hsl;have hpl:=(hne p (List.mem_of_getElem? hp)).2;have h1000:(1000:Nat)*1001+1001 < sizeLine:=by decide
   have hsl2:(spaced (ws.take i)).length<=1000*1001:=Nat.le_trans hsl (Nat.mul_le_mul_right _ (by omega))
   have hnext:=spaced_snoc (ws.take i) p;rw [<-cG hp] at hnext;walk_at "rd";refine⟨_,.inl (SqL.of h1),?_⟩
   rw [aG];by_cases hi:i=0
   ·subst hi;rw [if_neg (by simp [spaced])]
    refine⟨tyl h1,_,h1,_,s5 _ _ hpq,?_,s5.upd hD,?_⟩
    ·rw [aG,aG];omega
    ·rw [uS,hnext,<-bv_app];simp [spaced]
   ·have hpos:0 < (spaced (ws.take i)).length:=spaced_pos (fun x hx=>(hne x (List.mem_of_mem_take hx)).1) (by intro z;have:=congrArg List.length z;rw [List.length_take,List.length_nil] at this;omega)
    rw [if_pos (by omega)];refine⟨tyl h1,_,h1,?_,tyl uS,_,uS,bv p,?_,?_,(s5.upd hD).upd hD,?_⟩
    ·rw [aG];omega
    ·rw [uN (bB (s5 _ _ hpq) h1 (by intro z;cases z))]
     exact s5 _ _ hpq
    ·rw [List.length_append,aG,aG];simp only [List.length_cons,List.length_nil];omega
    ·have hne0:ws.take i≠[]:=by intro z;have:=congrArg List.length z;rw [List.length_take,List.length_nil] at this;omega
     rw [uS,hnext,if_neg hne0,bv_app,bv_app];rfl
  ·rintro σ H2 ⟨v,rfl,s5,h1⟩
   rw [List.length_map,<-hql,List.take_length] at h1;have hsl:=spaced_len ws (fun x hx=>(hne x hx).2)
   have h1000:(1000:Nat)*1001+1001 < sizeLine:=by decide
   have hsl2:(spaced ws).length<=1000*1001:=Nat.le_trans hsl (Nat.mul_le_mul_right _ hlen)
   walk_at "rd";refine⟨tyl h1,_,h1,?_,k D _ (s5.upd hD) hD ?_⟩
   ·rw [aG];omega
   ·rw [uS,bv_app];rfl
theorem mk_Province {a b c d:V}:bK "shores" d (bK "short_name" c (bK "name" b (bK "kind" a [])))=aK a b c d:=by with_unfolding_all rfl
theorem mk_Unit {a b c d:V}:bK "order" d (bK "shore" c (bK "fleet" b (bK "power" a [])))=aZ a b c d:=by with_unfolding_all rfl
theorem mk_Place {a b c:V}:bK "shore" c (bK "province" b (bK "error" a []))=bQ a b c:=by with_unfolding_all rfl
theorem mk_Reading {a b c:V}:bK "order" c (bK "province" b (bK "error" a []))=cQ a b c:=by with_unfolding_all rfl
theorem mk_Reader {a b:V}:bK "place" b (bK "numbers" a [])=bU a b:=by with_unfolding_all rfl
def iY:SP:=fun K P w ad vs H Q _=>∃ (x dx:Addr)(a b c d:V),vs=[.ref x,a,b,c,d]/\H x=some (.ins ad.cProvince dx [])/\Q .non (upd H x (.ins ad.cProvince dx (aK a b c d)))
def sp_Unit___init__:SP:=fun K P w ad vs H Q _=>∃ (x dx:Addr)(a b c:V),vs=[.ref x,a,b,c]/\H x=some (.ins ad.cUnit dx [])/\Q .non (upd H x (.ins ad.cUnit dx (aZ a b c (.ref ad.a_HOLD))))
def gY:SP:=fun K P w ad vs H Q _=>∃ (x dx:Addr)(a b c:V),vs=[.ref x,a,b,c]/\H x=some (.ins ad.cPlace dx [])/\Q .non (upd H x (.ins ad.cPlace dx (bQ a b c)))
def cX:SP:=fun K P w ad vs H Q _=>∃ (x dx:Addr)(a b c:V),vs=[.ref x,a,b,c]/\H x=some (.ins ad.cReading dx [])/\Q .non (upd H x (.ins ad.cReading dx (cQ a b c)))
def kX:SP:=fun K P w ad vs H Q _=>∃ (x dx:Addr)(a:V),vs=[.ref x,a]/\H x=some (.ins ad.cReader dx [])/\Q .non (upd H x (.ins ad.cReader dx (bU a (.int 0))))
theorem put_le {f:Str}{v:V}:∀ {fs:List (Str×V)},(bK f v fs).length<=fs.length+1
 | []=>by simp [bK]
 | (g,x)::fs=>by
  unfold bK;split
  ·simp
  ·simp only [List.length_cons];have:=put_le (f:=f) (v:=v) (fs:=fs)
   omega
theorem fw1 {f:Str}{v:V}:(bK f v []).length < 1000:=Nat.lt_of_le_of_lt put_le (by decide)
theorem fw2 {f g:Str}{v u:V}:(bK f v (bK g u [])).length < 1000:=by
 have h1:=put_le (f:=f) (v:=v) (fs:=bK g u [])
 have h2:=put_le (f:=g) (v:=u) (fs:=[])
 simp only [List.length_nil] at h2;omega
theorem fw3 {f g h:Str}{v u z:V}:(bK f v (bK g u (bK h z []))).length < 1000:=by
 have h1:=put_le (f:=f) (v:=v) (fs:=bK g u (bK h z []))
 have h2:=put_le (f:=g) (v:=u) (fs:=bK h z [])
 have h3:=put_le (f:=h) (v:=z) (fs:=[])
 simp only [List.length_nil] at h3;omega
abbrev O_Province:=KO "Province" Adr.cProvince 1 ["self","kind","name","short_name","shores"] iY
theorem ok_Province___init__ (F:Fun K "__init__" "Province.__init__" eL f fd)(T:Txt K mg ad) :FnOk P w K mg base CX0 1 f fd ["self","kind","name","short_name","shores"] (iY K P w ad):=by
 refine F.ok sc_Province___init__ (fun vs H Q E h=>?_) (fun _ A _ s H vs Q E hr h=>?_)
 ·obtain⟨x,dx,a,b,c,d,rfl,_⟩:=h;rfl
 ·obtain⟨x,dx,a,b,c,d,rfl,h1,k⟩:=h
  refine⟨_,(sC (cH (pv 0) (pv 1) rfl)
   (sC (cH (pv 0) (pv 2) rfl)
   (sC (cH (pv 0) (pv 3) rfl)
   (sO (cH (pv 0) (pv 4) rfl))))),?_⟩
  walk_at "rd";refine⟨_,_,_,h1,T.cl_Province,T.nf_Province_kind,by decide,_,_,_,uS,T.cl_Province,T.nf_Province_name,fw1,_,_,_,uS,T.cl_Province,T.nf_Province_short_name,fw2,_,_,_,uS,T.cl_Province,T.nf_Province_shores,fw3,?_⟩
  rw [cB,cB,cB,mk_Province];exact k
abbrev O_Unit:=KO "Unit" Adr.cUnit 1 ["self","power","fleet","shore"] sp_Unit___init__
theorem ok_Unit___init__ (F:Fun K "__init__" "Unit.__init__" iP f fd)(T:Txt K mg ad) :FnOk P w K mg base CX0 1 f fd ["self","power","fleet","shore"] (sp_Unit___init__ K P w ad):=by
 refine F.ok sc_Unit___init__ (fun vs H Q E h=>?_) (fun _ A _ s H vs Q E hr h=>?_)
 ·obtain⟨x,dx,a,b,c,rfl,_⟩:=h;rfl
 ·obtain⟨x,dx,a,b,c,rfl,h1,k⟩:=h
  refine⟨_,(sC (cH (pv 0) (pv 1) rfl)
   (sC (cH (pv 0) (pv 2) rfl)
   (sC (cH (pv 0) (pv 3) rfl)
   (sO (cH (pv 0) (eG rfl T.g_HOLD) rfl))))),?_⟩
  walk_at "rd";refine⟨_,_,_,h1,T.cl_Unit,T.nf_Unit_power,by decide,_,_,_,uS,T.cl_Unit,T.nf_Unit_fleet,fw1,_,_,_,uS,T.cl_Unit,T.nf_Unit_shore,fw2,_,_,_,uS,T.cl_Unit,T.nf_Unit_order,fw3,?_⟩
  rw [cB,cB,cB,mk_Unit];exact k
abbrev O_Place:=KO "Place" Adr.cPlace 1 ["self","error","province","shore"] gY
theorem ok_Place___init__ (F:Fun K "__init__" "Place.__init__" gT f fd)(T:Txt K mg ad) :FnOk P w K mg base CX0 1 f fd ["self","error","province","shore"] (gY K P w ad):=by
 refine F.ok sc_Place___init__ (fun vs H Q E h=>?_) (fun _ A _ s H vs Q E hr h=>?_)
 ·obtain⟨x,dx,a,b,c,rfl,_⟩:=h;rfl
 ·obtain⟨x,dx,a,b,c,rfl,h1,k⟩:=h
  refine⟨_,(sC (cH (pv 0) (pv 1) rfl)
   (sC (cH (pv 0) (pv 2) rfl)
   (sO (cH (pv 0) (pv 3) rfl)))),?_⟩
  walk_at "rd";refine⟨_,_,_,h1,T.cl_Place,T.nf_Place_error,by decide,_,_,_,uS,T.cl_Place,T.nf_Place_province,fw1,_,_,_,uS,T.cl_Place,T.nf_Place_shore,fw2,?_⟩
  rw [cB,cB,mk_Place];exact k
abbrev O_Reading:=KO "Reading" Adr.cReading 1 ["self","error","province","order"] cX
theorem ok_Reading___init__ (F:Fun K "__init__" "Reading.__init__" fG f fd)(T:Txt K mg ad) :FnOk P w K mg base CX0 1 f fd ["self","error","province","order"] (cX K P w ad):=by
 refine F.ok sc_Reading___init__ (fun vs H Q E h=>?_) (fun _ A _ s H vs Q E hr h=>?_)
 ·obtain⟨x,dx,a,b,c,rfl,_⟩:=h;rfl
 ·obtain⟨x,dx,a,b,c,rfl,h1,k⟩:=h
  refine⟨_,(sC (cH (pv 0) (pv 1) rfl)
   (sC (cH (pv 0) (pv 2) rfl)
   (sO (cH (pv 0) (pv 3) rfl)))),?_⟩
  walk_at "rd";refine⟨_,_,_,h1,T.cl_Reading,T.nf_Reading_error,by decide,_,_,_,uS,T.cl_Reading,T.nf_Reading_province,fw1,_,_,_,uS,T.cl_Reading,T.nf_Reading_order,fw2,?_⟩
  rw [cB,cB,mk_Reading];exact k
abbrev O_Reader:=KO "Reader" Adr.cReader 1 ["self","numbers"] kX
theorem ok_Reader___init__ (F:Fun K "__init__" "Reader.__init__" gA f fd)(T:Txt K mg ad) :FnOk P w K mg base CX0 1 f fd ["self","numbers"] (kX K P w ad):=by
 refine F.ok sc_Reader___init__ (fun vs H Q E h=>?_) (fun _ A _ s H vs Q E hr h=>?_)
 ·obtain⟨x,dx,a,rfl,_⟩:=h;rfl
 ·obtain⟨x,dx,a,rfl,h1,k⟩:=h
  refine⟨_,(sC (cH (pv 0) (pv 1) rfl)
   (sO (cH (pv 0) eJ rfl))),?_⟩
  walk_at "rd";refine⟨_,_,_,h1,T.cl_Reader,T.nf_Reader_numbers,by decide,_,_,_,uS,T.cl_Reader,T.nf_Reader_place,fw1,?_⟩
  rw [cB,mk_Reader];exact k
def fJ:SP:=fun K P w ad vs H Q _=>∃ (q va:Addr)(p:Vbsoab.Province),vs=[.ref q]/\ProvAt ad H va p q/\Q (.int ((max 1 p.shores.length:Nat):Int)) H
def iG:SP:=fun K P w ad vs H Q _=>∃ (q va a:Addr)(p:Vbsoab.Province)(l:Bytes),vs=[.ref q,.ref a]/\ProvAt ad H va p q/\SqT K H a (bv l)/\Q (.bl (Vbsoab.called p l)) H
def fB:SP:=fun K P w ad vs H Q _=>∃ (q va a:Addr)(p:Vbsoab.Province)(l:Bytes),vs=[.ref q,.ref a]/\ProvAt ad H va p q/\SqT K H a (bv l)/\∀ H',Same H H'->Q (.bl (Vbsoab.begins l p.name)) H'
def iE:SP:=fun K P w ad vs H Q _=>∃ (tb:Addr)(A:TAd)(t:Table) (p:Int),vs=[.ref tb,.int p]/\TabAt K P w ad H tb A t/\Q (.bl (isProv t p)) H
def kT:SP:=fun K P w ad vs H Q _=>∃ (tb:Addr)(A:TAd)(t:Table)(p s:Int),vs=[.ref tb,.int p,.int s]/\TabAt K P w ad H tb A t/\Q (.bl (isProv t p&&isShore t p s)) H
def eA:SP:=fun K P w ad vs H Q _=>∃ (tb:Addr)(A:TAd)(t:Table)(p k:Nat),vs=[.ref tb,.int p,.int k]/\TabAt K P w ad H tb A t/\p < aF t/\Q (.bl (decide ((provAt t.map p).kind=k))) H
theorem dp_bv {a:Addr}{l:Bytes}(h:SqT K H a (bv l)):Dp K H (.ref a) (tI (nI l)):=dp_tup (by rw [<-iV];exact h)
theorem eqv_bv (l m:Bytes):PyData.eqv (tI (nI l)) (tI (nI m))=decide (l=m):=by
 rw [eqv_tI];exact decide_eq_decide.mpr nI_iff
theorem eq_bv {a b:Addr}{l m:Bytes}{Q:VK}(h:SqT K H a (bv l))(k:SqT K H b (bv m))(q:Q (.bl (decide (l=m))) H):rEqD K (.ref a) (.ref b) H Q :=
 ⟨_,_,dp_bv h,dp_bv k,iQ _,iQ _,by rw [eqv_bv];exact q⟩
theorem ne_bv {a b:Addr}{l m:Bytes}{Q:VK}(h:SqT K H a (bv l))(k:SqT K H b (bv m))(q:Q (.bl (!decide (l=m))) H):rNeD K (.ref a) (.ref b) H Q :=
 ⟨_,_,dp_bv h,dp_bv k,iQ _,iQ _,by rw [eqv_bv];exact q⟩
theorem beq_comm_dec (a b:Bytes):(a==b)=decide (b=a):=Bool.eq_iff_iff.mpr ⟨fun h=>decide_eq_true (eq_of_beq h).symm,fun h=>beq_iff_eq.mpr (of_decide_eq_true h).symm⟩
theorem cutV_take (l:Bytes)(n:Nat):kC (bv l) none (some (n:Int))=bv (l.take n):=by
 unfold kC;rw [HT.sIx_none,HT.sIx_nat,List.drop_zero,Nat.sub_zero,aG];unfold bv;rw [<-List.map_take];congr 1
 by_cases h:n<=l.length
 ·rw [Nat.min_eq_left h]
 ·rw [Nat.min_eq_right (by omega),List.take_length,List.take_of_length_le (by omega)]
theorem fI {t:Table}(h:TabAt K P w ad H tb A t){i:Nat}(hi:i < aF t) :
  ∃ (qs:List Addr)(q:Addr),H A.pv=some (.lst (qs.map V.ref))/\qs.length=aF t/\qs[i]?=some q/\ProvAt ad H A.pv (provAt t.map i) q:=by
 obtain⟨qs,h1,h2⟩:=h.provs;have hl:t.map.provinces.length=qs.length:=Paired.length h2
 have e:t.map.provinces[i]?=some (provAt t.map i):=by
  unfold provAt;rw [List.getD_eq_getElem?_getD,List.getElem?_eq_getElem hi];rfl
 obtain⟨q,e1,e2⟩:=Paired.at_ h2 e;exact⟨qs,q,h1,hl.symm,e1,e2⟩
theorem eO {t:Table}{p:Int}(h:isProv t p=true):∃ i:Nat,p=(i:Int)/\i < aF t:=by
 unfold isProv Vbsoac.within at h;rw [Bool.and_eq_true,decide_eq_true_eq,decide_eq_true_eq] at h;exact⟨p.toNat,by omega,by unfold aF;omega⟩
theorem hZ {qs:List Addr}{i:Nat}{q:Addr}(h:qs[i]?=some q):atI (qs.map V.ref) (i:Int)=some (.ref q):=aV (j:=i) (by rw [List.getElem?_map,h];rfl)
abbrev dF:=MO Adr.cProvince "count_shores" 1 ["self"] fJ
theorem ok_Province_count_shores (F:Fun K "count_shores" "Province.count_shores" cU f fd)(T:Txt K mg ad) :FnOk P w K mg base CX0 1 f fd ["self"] (fJ K P w ad):=by
 refine F.ok sc_Province_count_shores (fun vs H Q E h=>?_) (fun _ A _ s H vs Q E hr h=>?_)
 ·obtain⟨q,va,p,rfl,_⟩:=h;rfl
 ·obtain⟨q,va,p,rfl,⟨dx,n,s,l,ws,h1,h2,h3,h4,h5,h6⟩,k⟩:=h;refine⟨_,(sO (sR (bI (call_max2 rfl) rfl T.n_max PyProof.Rows.boot_max (pC eJ (pC (aR T.n_len (pC (eF (pv 0) rfl) pN)) pN))))),?_⟩
  walk_at "rd";refine⟨_,_,_,h1,T.cl_Province,T.nf_Province_shores,_,eE,_,rfl,_,.inl (SqL.of h5),?_⟩
  have e:p.shores.length=ws.length:=Paired.length h6
  rw [List.length_map,<-e]
  have e2:(if ((p.shores.length:Nat):Int) > 1 then((p.shores.length:Nat):Int) else 1)=((max 1 p.shores.length:Nat):Int):=by
   by_cases z:((p.shores.length:Nat):Int) > 1
   ·rw [if_pos z];omega
   ·rw [if_neg z];omega
  refine⟨1,_,⟨rfl,rfl⟩,?_⟩
  rw [e2];exact k
abbrev eW:=MO Adr.cProvince "is_called" 1 ["self","word"] iG
theorem ok_Province_is_called (F:Fun K "is_called" "Province.is_called" dW f fd)(T:Txt K mg ad) :FnOk P w K mg base CX0 1 f fd ["self","word"] (iG K P w ad):=by
 refine F.ok sc_Province_is_called (fun vs H Q E h=>?_) (fun _ A _ s H vs Q E hr h=>?_)
 ·obtain⟨q,va,a,p,l,rfl,_⟩:=h;rfl
 ·obtain⟨q,va,a,p,l,rfl,⟨dx,n,s,sl,ws,h1,h2,h3,h4,h5,h6⟩,hS,k⟩:=h;have hu64:=hr.units;refine⟨_,(sO (sR (pe_or (eB (op_eqD hu64) (pv 1) (eF (pv 0) rfl) (nMk _)) (jO (eB (op_eqD hu64) (pv 1) (eF (pv 0) rfl) (nMk _)))))),?_⟩
  walk_at "rd";refine⟨_,_,_,h1,T.cl_Province,T.nf_Province_name,_,f_Province_name,eq_bv hS (SqT.of h2) ⟨_,rfl,?_⟩⟩
  have e:Vbsoab.called p l=(decide (l=p.name)||decide (l=p.short)):=by
   unfold Vbsoab.called;rw [beq_comm_dec p.name l,beq_comm_dec p.short l]
  rw [e] at k;refine bool_or (R:=fun v=>Q v H) (b:=decide (l=p.short)) k |> fun z=>?_
  by_cases c:l=p.name
  ·rw [if_pos (decide_eq_true c)];rw [if_pos (decide_eq_true c)] at z;exact z
  ·rw [if_neg (by simpa using c)]
   rw [if_neg (by simpa using c)] at z
   exact⟨_,_,_,h1,T.cl_Province,T.nf_Province_short_name,_,aI,eq_bv hS (SqT.of h3) z⟩
abbrev fO:=MO Adr.cProvince "has_beginning" 1 ["self","word"] fB
theorem ok_Province_has_beginning (F:Fun K "has_beginning" "Province.has_beginning" cO f fd)(T:Txt K mg ad) :FnOk P w K mg base CX0 1 f fd ["self","word"] (fB K P w ad):=by
 refine F.ok sc_Province_has_beginning (fun vs H Q E h=>?_) (fun _ A _ s H vs Q E hr h=>?_)
 ·obtain⟨q,va,a,p,l,rfl,_⟩:=h;rfl
 ·obtain⟨q,va,a,p,l,rfl,⟨dx,n,s,sl,ws,h1,h2,h3,h4,h5,h6⟩,hS,k⟩:=h;have hu64:=hr.units;refine⟨_,(sO (sR (eB (op_eqD hu64) (cS sl_tupA (eF (pv 0) rfl) eX (dL (aR T.n_len (pC (pv 1) pN)))) (pv 1) (nMk _)))),?_⟩
  walk_at "rd";refine⟨_,_,_,h1,T.cl_Province,T.nf_Province_name,_,f_Province_name,_,.inr hS,?_⟩
  rw [aG];have e:Vbsoab.begins l p.name=decide (p.name.take l.length=l):=Bool.eq_iff_iff.mpr (by simp [Vbsoab.begins])
  rw [e] at k;refine⟨n,_,rfl,SqT.of h2,fun z=>?_,fun z x hx=>?_⟩
  ·rw [aG,HT.sIx_nat] at z;have e2:p.name.take l.length=p.name:=List.take_of_length_le (by omega)
   refine eq_bv (SqT.of h2) hS ?_
   have:=k H (Same.refl _)
   rw [e2] at this;exact this
  ·refine eq_bv (l:=p.name.take l.length) (SqT.of (by rw [uS,cutV_take])) ((Same.new hx).tup hS) (k _ (Same.new hx))
abbrev bV:=MO Adr.cTable "has_province" 1 ["self","p"] iE
theorem ok_Table_has_province (F:Fun K "has_province" "Table.has_province" dR f fd)(T:Txt K mg ad) :FnOk P w K mg base CX0 1 f fd ["self","p"] (iE K P w ad):=by
 refine F.ok sc_Table_has_province (fun vs H Q E h=>?_) (fun _ A _ s H vs Q E hr h=>?_)
 ·obtain⟨tb,A,t,p,rfl,_⟩:=h;rfl
 ·obtain⟨tb,A,t,p,rfl,hT,k⟩:=h;refine⟨_,(sO (sR (hJ hU op_lt eJ (pv 1) (aR T.n_len (pC (eF (pv 0) rfl) pN))))),?_⟩
  walk_at "rd";obtain⟨qs,h1,h2⟩:=hT.provs;have hl:t.map.provinces.length=qs.length:=Paired.length h2
  unfold isProv Vbsoac.within at k;by_cases c:0<=p
  ·rw [if_pos c];refine⟨_,_,_,hT.obj,T.cl_Table,T.nf_Table_provinces,_,aC,_,rfl,_,.inl (SqL.of h1),?_⟩
   rw [List.length_map,<-hl];rw [decide_eq_true c,Bool.true_and] at k;have e:decide (p<=(t.map.provinces.length:Int) - 1)=decide (p < (t.map.provinces.length:Int)):=decide_eq_decide.mpr (by omega)
   rw [e] at k;exact k
  ·rw [if_neg c];rw [decide_eq_false c] at k;exact k
abbrev iA:=MO Adr.cTable "has_shore" 2 ["self","p","s"] kT
theorem ok_Table_has_shore (F:Fun K "has_shore" "Table.has_shore" fX f fd)(T:Txt K mg ad)(D_Province_count_shores:dF P w K mg base ad)(D_Table_has_province:bV P w K mg base ad):FnOk P w K mg base CX0 2 f fd ["self","p","s"] (kT K P w ad):=by
 refine F.ok sc_Table_has_shore (fun vs H Q E h=>?_) (fun _ A _ s H vs Q E hr h=>?_)
 ·obtain⟨tb,A,t,p,s,rfl,_⟩:=h;rfl
 ·obtain⟨tb,A,t,p,s,rfl,hT,k⟩:=h;refine⟨_,(sO (sR (pe_and (aH (pv 0) T.cl_Table D_Table_has_province hr (pC (pv 1) pN)) (jO (hJ hU op_lt eJ (pv 2) (aU (aN aP (eF (pv 0) rfl) (pv 1) (fun _ _=>rfl)) T.cl_Province D_Province_count_shores hr)))))),?_⟩
  walk_at "rd";refine⟨_,_,hT.obj,bF,tb,A,t,p,rfl,hT,_,rfl,?_⟩
  by_cases c:isProv t p=true
  ·rw [if_pos c];rw [c,Bool.true_and] at k;obtain⟨i,rfl,hi⟩:=eO c;obtain⟨qs,q,h1,h2,h3,h4⟩:=fI hT hi;unfold isShore Vbsoac.within at k;by_cases z:0<=s
   ·rw [if_pos z];refine⟨_,_,_,hT.obj,T.cl_Table,T.nf_Table_provinces,_,aC,_,rfl,_,SqL.of h1,_,hZ h3,_,rfl,?_⟩
    obtain⟨dx,n,s',l,ws,g1,g2⟩:=id h4;refine⟨_,_,g1,eR,q,A.pv,_,rfl,h4,_,rfl,?_⟩
    rw [decide_eq_true z,Bool.true_and] at k
    have e:decide (s<=(shoresOf t.map (i:Int).toNat:Int) - 1)=decide (s < ((max 1 (provAt t.map i).shores.length:Nat):Int)):=by
     rw [Int.toNat_natCast];unfold shoresOf;exact decide_eq_decide.mpr (by omega)
    rw [e] at k;exact k
   ·rw [if_neg z];rw [decide_eq_false z] at k;exact k
  ·rw [if_neg c];have c':isProv t p=false:=by simpa using c
   rw [c'] at k;exact k
abbrev cE:=MO Adr.cTable "has_kind" 1 ["self","p","kind"] eA
theorem ok_Table_has_kind (F:Fun K "has_kind" "Table.has_kind" gR f fd)(T:Txt K mg ad) :FnOk P w K mg base CX0 1 f fd ["self","p","kind"] (eA K P w ad):=by
 refine F.ok sc_Table_has_kind (fun vs H Q E h=>?_) (fun _ A _ s H vs Q E hr h=>?_)
 ·obtain⟨tb,A,t,p,s,rfl,_⟩:=h;rfl
 ·obtain⟨tb,A,t,p,s,rfl,hT,hp,k⟩:=h;refine⟨_,(sO (sR (eB aM (eF (aN aP (eF (pv 0) rfl) (pv 1) (fun _ _=>rfl)) rfl) (pv 2) (nMk _)))),?_⟩
  walk_at "rd";obtain⟨qs,q,h1,h2,h3,dx,n,s',l,ws,g1,g2⟩:=fI hT hp;refine⟨_,_,_,hT.obj,T.cl_Table,T.nf_Table_provinces,_,aC,_,rfl,_,SqL.of h1,_,hZ h3,_,rfl,_,_,_,g1,T.cl_Province,T.nf_Province_kind,_,f_Province_kind,rfl,?_⟩
  have e:decide (V.int ((provAt t.map p).kind:Int)=V.int (s:Int))=decide ((provAt t.map p).kind=s):=decide_eq_decide.mpr (by rw [V.int.injEq];omega)
  rw [e];exact k
def sp_Table_has_name:SP:=fun K P w ad vs H Q _=>∃ (tb a:Addr)(A:TAd)(t:Table)(l:Bytes),vs=[.ref tb,.ref a]/\TabAt K P w ad H tb A t/\SqT K H a (bv l)/\∀ H',Same H H'->Q (.bl (exactly t.map l).isSome) H'
def cV:SP:=fun K P w ad vs H Q _=>∃ (tb a:Addr)(A:TAd)(t:Table)(l:Bytes),vs=[.ref tb,.ref a]/\TabAt K P w ad H tb A t/\SqT K H a (bv l) /\
 ∀ D H',Same H H'->H D=none->H' D=some (.lst (bv (Vbsoab.find t.map l)))->Q (.ref D) H'
abbrev O_Table_has_name:=MO Adr.cTable "has_name" 2 ["self","word"] sp_Table_has_name
theorem ok_Table_has_name (F:Fun K "has_name" "Table.has_name" dZ f fd)(T:Txt K mg ad)(D_Province_is_called:eW P w K mg base ad):FnOk P w K mg base CX0 2 f fd ["self","word"] (sp_Table_has_name K P w ad):=by
 refine F.ok sc_Table_has_name (fun vs H Q E h=>?_) (fun _ A _ s H vs Q E hr h=>?_)
 ·obtain⟨tb,a,A,t,l,rfl,_⟩:=h;rfl
 ·obtain⟨tb,a,A,t,l,rfl,hT,hS,k⟩:=h;refine⟨_,(sO (sR (bI (cr_any rfl) rfl T.n_any PyProof.Rows.boot_any (pC (pe_lc rfl sc_Table_has_name.nd (jX (eF (pv 0) rfl)) (eT (own:=[("province",2)]) (show blkC ["self","word","province"] (dS dZ) _ _=true by decide +kernel)) (fun _ _ _ _ _=>(cY (i:=2) sc_Table_has_name.nd rfl (Or.inl rfl))) (fun _ _ _ _ _=>pts_nil) (fun _ _ _ _ _=>(aH (pv 2) T.cl_Province D_Province_is_called hr (pC (pv 1) pN)))) pN)))),?_⟩
  walk_at "rd";obtain⟨qs,h1,h2⟩:=hT.provs;have hl:t.map.provinces.length=qs.length:=Paired.length h2
  refine lc_list2 (K:=K) (a:=A.pv) (xs:=qs.map V.ref) (t.map.provinces.map fun p=>V.bl (Vbsoab.called p l)) (by rw [List.length_map,List.length_map];exact hl) (fun R hR=>⟨_,rfl,_,_,_,_,_,rfl,hT.obj,T.cl_Table,T.nf_Table_provinces,aC,_,rfl,⟨_,SqL.of h1⟩,hR⟩) (SqL.of h1) (by rw [List.length_map,<-hl];exact Nat.le_trans hT.wf.few (by decide)) (fun i x y H1 R hx hy s1 hR=>?_) (fun D H1 hD s1 hlD=>?_)
  ·rw [List.getElem?_map] at hx hy;obtain⟨q,hq,rfl⟩:=Option.map_eq_some_iff.mp hx;obtain⟨p,hp,rfl⟩:=Option.map_eq_some_iff.mp hy;obtain⟨q',hq',hpq⟩:=Paired.at_ h2 hp;have e:q'=q:=Option.some.inj (hq'.symm.trans hq)
   subst e;have hpq1:=hpq.mono (fun b o _ z _=>s1 b o z) ⟨_,h1⟩
   obtain⟨dx,n,s',sl,ws,g1,g2⟩:=id hpq1;walk_at "rd";exact⟨_,_,g1,gL,q',A.pv,a,p,l,rfl,hpq1,s1.tup hS,hR _ (Same.refl _)⟩
  ·refine⟨D,rfl,t.map.provinces.map fun p=>Vbsoab.called p l,SqL.of (by rw [hlD,List.map_map];rfl),?_⟩
   have:=k H1 s1
   unfold exactly at this;rw [List.findIdx?_isSome] at this;rw [List.any_map];exact this
abbrev dE:=MO Adr.cTable "provinces_meant" 2 ["self","word"] cV
theorem ok_Table_provinces_meant (F:Fun K "provinces_meant" "Table.provinces_meant" aY f fd)(T:Txt K mg ad)(D_Province_has_beginning:fO P w K mg base ad)(D_Province_is_called:eW P w K mg base ad):FnOk P w K mg base CX0 2 f fd ["self","word"] (cV K P w ad):=by
 refine F.ok sc_Table_provinces_meant (fun vs H Q E h=>?_) (fun _ A _ s H vs Q E hr h=>?_)
 ·obtain⟨tb,a,A,t,l,rfl,_⟩:=h;rfl
 ·obtain⟨tb,a,A,t,l,rfl,hT,hS,k⟩:=h
  refine⟨_,(sC (ps_setLc (i:=2) rfl sc_Table_provinces_meant.nd rfl rfl (sw_true rfl rfl rfl (by decide +kernel)) (pi_enum rfl T.n_enumerate (pC (eF (pv 0) rfl) pN)) (eT (own:=[("p",3),("province",4)]) (show blkC ["self","word","called","p","province"] (dS aY) _ _=true by decide +kernel)) (fun _ _ _ _ _=>(pg_tup2K (K:=K) (i:=3) (j:=4) rfl rfl sc_Table_provinces_meant.nd rfl (Or.inl rfl) rfl (Or.inl rfl))) (fun _ _ _ _ _=>(pts_one (aX (aH (pv 4) T.cl_Province D_Province_is_called hr (pC (pv 1) pN))))) (fun _ _ _ _ _=>(pv 3)))
   (sC (aB (PW.pt (pw_or (tR op_gt (aR T.n_len (pC (pv 2) pN)) eJ (nMk _)) (pw_or1 (tR aM (aR T.n_len (pC (pv 1) pN)) eJ (nMk _))))) (sO (sR (pv 2))) sN)
   (sO (sR (pe_lc rfl sc_Table_provinces_meant.nd (pi_enum rfl T.n_enumerate (pC (eF (pv 0) rfl) pN)) (eT (own:=[("p",3),("province",4)]) (show blkC ["self","word","called","p","province"] (dS aY) _ _=true by decide +kernel)) (fun _ _ _ _ _=>(pg_tup2K (K:=K) (i:=3) (j:=4) rfl rfl sc_Table_provinces_meant.nd rfl (Or.inl rfl) rfl (Or.inl rfl))) (fun _ _ _ _ _=>(pts_one (aX (aH (pv 4) T.cl_Province D_Province_has_beginning hr (pC (pv 1) pN))))) (fun _ _ _ _ _=>(pv 3))))))),?_⟩
  obtain⟨qs,h1,h2⟩:=hT.provs;have hl:t.map.provinces.length=qs.length:=Paired.length h2
  have hz:(qs.map V.ref).length<=sizeLine:=by rw [List.length_map,<-hl];exact Nat.le_trans hT.wf.few (by decide)
  have hl2:(qs.map V.ref).length=t.map.provinces.length:=by rw [List.length_map,hl]
  have get:∀ {i:Nat}{x:V}{H1:Hp},(qs.map V.ref)[i]?=some x->Same H H1->∃ q p,x=.ref q/\t.map.provinces[i]?=some p/\ProvAt ad H1 A.pv p q:=fun {i x H1} hx s1=>by
   rw [List.getElem?_map] at hx;obtain⟨q,hq,rfl⟩:=Option.map_eq_some_iff.mp hx;obtain⟨p,hp,hpq⟩:=Paired.ta_ h2 hq;exact⟨q,p,rfl,hp,hpq.mono (fun b o _ z _=>s1 b o z) ⟨_,h1⟩⟩
  have fe:=find_eq hT.wf l;walk_at "rd";refine lc_enumF (K:=K) (a:=A.pv) (xs:=qs.map V.ref) (eS t.map l) (fun i=>.int (i:Nat)) (by decide) (fun R hR=>⟨_,rfl,_,_,_,_,_,rfl,hT.obj,T.cl_Table,T.nf_Table_provinces,aC,A.pv,_,rfl,SqL.of h1,hR⟩) (SqL.of h1) hz (fun i x H1 R hx s1 hR=>?_) (fun i x H1 R hx z s1 hR=>?_) (fun D H1 hD s1 hlD=>?_)
  ·obtain⟨q,p,rfl,hp,hpq⟩:=get hx s1;obtain⟨dx,n,s',sl,ws,g1,g2⟩:=id hpq;walk_at "rd";refine⟨_,_,g1,gL,q,A.pv,a,p,l,rfl,hpq,s1.tup hS,_,rfl,?_⟩
   have:=hR H1 (Same.refl _)
   unfold eS at this;rw [hp] at this;exact this
  ·walk_at "rd";exact hR H1 (Same.refl _)
  ·rw [hl2] at hlD;have hlD':H1 D=some (.lst (bv ((List.range t.map.provinces.length).filter (eS t.map l)))):=hlD
   walk_at "rd";refine⟨_,.inl (SqL.of hlD'),?_⟩
   rw [aG];by_cases c:0 < ((List.range t.map.provinces.length).filter (eS t.map l)).length
   ·rw [if_pos (by omega)];rw [if_pos (.inl c)] at fe;exact k D H1 s1 hD (by rw [fe];exact hlD')
   ·rw [if_neg (by omega)];refine⟨_,.inr (s1.tup hS),rfl,?_⟩
    rw [aG];by_cases z:l.length=0
    ·rw [if_pos (by rw [z];rfl)]
     rw [if_pos (.inr z)] at fe;exact k D H1 s1 hD (by rw [fe];exact hlD')
    ·rw [if_neg (by omega)];rw [if_neg (by intro q;rcases q with q | q;exact c q;exact z q)] at fe
     have hT1:=hT.same s1;refine lc_enumF (K:=K) (a:=A.pv) (xs:=qs.map V.ref) (beginsAt t.map l) (fun i=>.int (i:Nat)) (by decide) (fun R hR=>⟨_,rfl,_,_,_,_,_,rfl,hT1.obj,T.cl_Table,T.nf_Table_provinces,aC,A.pv,_,rfl,SqL.of (s1 _ _ h1),hR⟩) (SqL.of (s1 _ _ h1)) hz (fun i x H2 R hx s2 hR=>?_) (fun i x H2 R hx z s2 hR=>?_) (fun D2 H2 hD2 s2 hlD2=>?_)
     ·obtain⟨q,p,rfl,hp,hpq⟩:=get hx (s1.trans s2);obtain⟨dx,n,s',sl,ws,g1,g2⟩:=id hpq;walk_at "rd";refine⟨_,_,g1,jZ,q,A.pv,a,p,l,rfl,hpq,(s1.trans s2).tup hS,fun H3 s3=>⟨_,rfl,?_⟩⟩
      have:=hR H3 s3
      unfold beginsAt at this;rw [hp] at this;exact this
     ·walk_at "rd";exact hR H2 (Same.refl _)
     ·rw [hl2] at hlD2;exact k D2 H2 (s1.trans s2) (s1.free hD2) (by rw [fe];exact hlD2)
def PlAt (H:Hp)(a:Addr)(x:Nat):Prop:=H a=some (.tup ((codeKey x).map kV))
def sp_link_between:SP:=fun K P w ad vs H Q _=>(∃ (i j:Nat),vs=[.int i,.int j]/\∀ p H',Same H H'->H p=none->H' p=some (.tup ((eY (i,j)).map kV))->Q (.ref p) H') \/
 (∃ (a b:Addr)(x y:Nat),vs=[.ref a,.ref b]/\PlAt H a x/\PlAt H b y/\∀ p H',Same H H'->H p=none->NestAt H' p (iR (x,y))->Q (.ref p) H')
def gW:SP:=fun K P w ad vs H Q _=>∃ (tb:Addr)(A:TAd)(t:Table)(p q:Nat),vs=[.ref tb,.int p,.int q]/\TabAt K P w ad H tb A t/\∀ H',Same H H'->Q (.bl (linked t.map.land p q)) H'
def iD:SP:=fun K P w ad vs H Q _=>∃ (tb a b:Addr)(A:TAd)(t:Table)(x y:Nat),vs=[.ref tb,.ref a,.ref b]/\TabAt K P w ad H tb A t/\PlAt H a x/\PlAt H b y/\∀ H',Same H H'->Q (.bl (linked t.map.sea x y)) H'
def bN (t:Table)(x q:Nat):List Nat:=(List.range (shoresOf t.map q)).filter fun u=>linked t.map.sea x (place q u)
def gV:SP:=fun K P w ad vs H Q _=>∃ (tb a:Addr)(A:TAd)(t:Table)(x q:Nat),vs=[.ref tb,.ref a,.int q]/\TabAt K P w ad H tb A t/\PlAt H a x/\q < aF t/\∀ D H',Same H H'->H D=none->H' D=some (.lst (bv (bN t x q)))->Q (.ref D) H'
def dG:SP:=fun K P w ad vs H Q _=>∃ (tb:Addr)(A:TAd)(t:Table),vs=[.ref tb]/\TabAt K P w ad H tb A t/\∀ D H',Same H H'->H D=none->H' D=some (.lst (bv (t.men.map fun m=>m.prov)))->Q (.ref D) H'
abbrev eU:=DO "link_between" 1 ["one","other"] sp_link_between
theorem ok_link_between (F:Fun K "link_between" "link_between" jM f fd)(T:Txt K mg ad) :FnOk P w K mg base CX0 1 f fd ["one","other"] (sp_link_between K P w ad):=by
 refine F.ok sc_link_between (fun vs H Q E h=>?_) (fun _ A _ s H vs Q E hr h=>?_)
 ·rcases h with ⟨i,j,rfl,_⟩ | ⟨a,b,x,y,rfl,_⟩ <;> rfl
 ·have hu64:=hr.units;refine⟨_,(sO (sR (eM (pC (bI (call_min2A rfl hu64) rfl T.n_min PyProof.Rows.boot_min (pC (pv 0) (pC (pv 1) pN))) (pC (bI (call_max2A rfl hu64) rfl T.n_max PyProof.Rows.boot_max (pC (pv 0) (pC (pv 1) pN))) pN))))),?_⟩
  rcases h with ⟨i,j,rfl,k⟩ | ⟨a,b,x,y,rfl,ha,hb,k⟩
  ·walk_at "rd";refine .inl ⟨_,_,⟨rfl,rfl⟩,.inl ⟨_,_,⟨rfl,rfl⟩,by decide,fun p hp=>k p _ (Same.new hp) hp ?_⟩⟩
   rw [uS]
   have e1:(if (j:Int) < (i:Int) then(j:Int) else(i:Int))=((min i j:Nat):Int):=by
    by_cases z:(j:Int) < (i:Int)
    ·rw [if_pos z];omega
    ·rw [if_neg z];omega
   have e2:(if (j:Int) > (i:Int) then(j:Int) else(i:Int))=((max i j:Nat):Int):=by
    by_cases z:(j:Int) > (i:Int)
    ·rw [if_pos z];omega
    ·rw [if_neg z];omega
   rw [e1,e2];rfl
  ·walk_at "rd";have ha':H a=some (.tup ((codeI x).map V.int)):=ha
   have hb':H b=some (.tup ((codeI y).map V.int)):=hb
   refine .inr ⟨_,_,⟨rfl,rfl⟩,_,SqT.of ha',_,SqT.of hb',.inr ⟨_,_,⟨rfl,rfl⟩,_,SqT.of ha',_,SqT.of hb',by decide,fun p hp=>k p _ (Same.new hp) hp ?_⟩⟩
   rw [lex_code,lex_code];have na:a≠p:=nN ha hp
   have nb:b≠p:=nN hb hp
   by_cases z:x < y
   ·have z':¬ y < x:=by omega
    rw [if_neg (by simpa using z'),if_pos (by simpa using z)]
    refine⟨[a,b],by rw [uS];rfl,.cons ?_ (.cons ?_ .nil)⟩
    ·rw [uN na,ha];simp only [show min x y=x by omega]
    ·rw [uN nb,hb];simp only [show max x y=y by omega]
   ·rw [if_neg (show ¬ decide (x < y)=true by simpa using z)]
    by_cases z':y < x
    ·rw [if_pos (by simpa using z')]
     refine⟨[b,a],by rw [uS];rfl,.cons ?_ (.cons ?_ .nil)⟩
     ·rw [uN nb,hb];simp only [show min x y=y by omega]
     ·rw [uN na,ha];simp only [show max x y=x by omega]
    ·rw [if_neg (by simpa using z')]
     have e:x=y:=by omega
     subst e;refine⟨[a,a],by rw [uS];rfl,.cons ?_ (.cons ?_ .nil)⟩
     ·rw [uN na,ha];simp only [Nat.min_self]
     ·rw [uN na,ha];simp only [Nat.max_self]
abbrev iJ:=MO Adr.cTable "has_land_link" 2 ["self","p","q"] gW
theorem ok_Table_has_land_link (F:Fun K "has_land_link" "Table.has_land_link" dI f fd)(T:Txt K mg ad)(D_link_between:eU P w K mg base ad):FnOk P w K mg base CX0 2 f fd ["self","p","q"] (gW K P w ad):=by
 refine F.ok sc_Table_has_land_link (fun vs H Q E h=>?_) (fun _ A _ s H vs Q E hr h=>?_)
 ·obtain⟨tb,A,t,p,q,rfl,_⟩:=h;rfl
 ·obtain⟨tb,A,t,p,q,rfl,hT,k⟩:=h;have hu:=iI hr;refine⟨_,(sO (sR (pe_cmp (pc_din hu (eD D_link_between hr (pC (pv 1) (pC (pv 2) pN))) (eF (pv 0) rfl))))),?_⟩
  walk_at "rd";refine .inl ⟨p,q,rfl,fun y H1 s1 hy h1=>?_⟩
  have hT1:=hT.same s1;refine⟨_,_,_,hT1.obj,T.cl_Table,T.nf_Table_land_links,_,dM,_,rfl,_,DGet.t hT1.land h1,?_⟩
  rw [land_linked];exact k H1 s1
abbrev eV:=MO Adr.cTable "has_sea_link" 2 ["self","place","other_place"] iD
theorem ok_Table_has_sea_link (F:Fun K "has_sea_link" "Table.has_sea_link" dQ f fd)(T:Txt K mg ad)(D_link_between:eU P w K mg base ad):FnOk P w K mg base CX0 2 f fd ["self","place","other_place"] (iD K P w ad):=by
 refine F.ok sc_Table_has_sea_link (fun vs H Q E h=>?_) (fun _ A _ s H vs Q E hr h=>?_)
 ·obtain⟨tb,a,b,A,t,x,y,rfl,_⟩:=h;rfl
 ·obtain⟨tb,a,b,A,t,x,y,rfl,hT,ha,hb,k⟩:=h;have hu64:=hr.units;refine⟨_,(sO (sR (eB (op_inN hu64) (eD D_link_between hr (pC (pv 1) (pC (pv 2) pN))) (eF (pv 0) rfl) (by with_unfolding_all rfl)))),?_⟩
  walk_at "rd";refine .inr ⟨a,b,x,y,rfl,ha,hb,fun z H1 s1 hz h1=>?_⟩
  have hT1:=hT.same s1;refine⟨_,_,_,hT1.obj,T.cl_Table,T.nf_Table_sea_links,_,eC,z,_,_,_,rfl,rfl,h1,hT1.sea,?_⟩
  have:=k H1 s1
  rw [<-sea_linked] at this;exact this
abbrev dY:=MO Adr.cTable "linked_shores" 3 ["self","place","q"] gV
theorem ok_Table_linked_shores (F:Fun K "linked_shores" "Table.linked_shores" cC f fd)(T:Txt K mg ad)(D_Province_count_shores:dF P w K mg base ad)(D_Table_has_sea_link:eV P w K mg base ad):FnOk P w K mg base CX0 3 f fd ["self","place","q"] (gV K P w ad):=by
 refine F.ok sc_Table_linked_shores (fun vs H Q E h=>?_) (fun _ A _ s H vs Q E hr h=>?_)
 ·obtain⟨tb,a,A,t,x,q,rfl,_⟩:=h;rfl
 ·obtain⟨tb,a,A,t,x,q,rfl,hT,ha,hq,k⟩:=h
  refine⟨_,(sO (sR (pe_lc rfl sc_Table_linked_shores.nd (pi_range1 rfl T.n_range (pC (aU (aN aP (eF (pv 0) rfl) (pv 2) (fun _ _=>rfl)) T.cl_Province D_Province_count_shores hr) pN)) (eT (own:=[("t",3)]) (show blkC ["self","place","q","t"] (dS cC) _ _=true by decide +kernel)) (fun _ _ _ _ _=>(cY (i:=3) sc_Table_linked_shores.nd rfl (Or.inl rfl))) (fun _ _ _ _ _=>(pts_one (aX (aH (pv 0) T.cl_Table D_Table_has_sea_link hr (pC (pv 1) (pC (eM (pC (pv 2) (pC (pv 3) pN))) pN)))))) (fun _ _ _ _ _=>(pv 3))))),?_⟩
  walk_at "rd";obtain⟨qs,y,h1,h2,h3,h4⟩:=fI hT hq;obtain⟨dx,n,s',l,ws,g1,g2⟩:=id h4
  have h4s:shoresOf t.map q<=4:=by
   have:=(hT.wf.prov _ (List.mem_of_getElem? (cW hq))).shores
   unfold shoresOf;omega
  refine lc_rangeF (n:=shoresOf t.map q) (fun u=>linked t.map.sea x (place q u)) (fun i=>.int (i:Nat)) (fun R hR=>?_) (Nat.le_trans h4s (by decide)) (fun i H1 R hi s1 hR=>?_) (fun i H1 R hi z s1 hR=>?_) (fun D H1 hD s1 hl=>k D H1 s1 hD hl)
  ·refine⟨_,rfl,_,_,_,_,_,rfl,hT.obj,T.cl_Table,T.nf_Table_provinces,aC,_,rfl,A.pv,_,_,_,rfl,rfl,SqL.of h1,hZ h3,y,_,_,rfl,g1,eR,y,A.pv,_,rfl,h4,_,rfl,?_,?_,?_⟩
   ·exact Int.le_trans (by decide) (Int.natCast_nonneg _)
   ·have:(max 1 (provAt t.map q).shores.length)<=4:=h4s
    omega
   ·exact hR
  ·walk_at "rd";have hT1:=hT.same s1;refine⟨_,_,hT1.obj,gK,by decide,fun p hp=>?_⟩
   have s2:=Same.new (o:=.tup [V.int (q:Int),V.int (i:Int)]) hp
   refine⟨tb,a,p,A,t,x,place q i,rfl,hT1.same s2,s2 _ _ (s1 _ _ ha),?_,fun H3 s3=>⟨_,rfl,hR H3 (s2.trans s3)⟩⟩
   show upd _ p _ p=_
   rw [uS,gE (by omega)]
  ·walk_at "rd";exact hR H1 (Same.refl _)
abbrev bA:=MO Adr.cTable "provinces_with_units" 1 ["self"] dG
theorem jB (F:Fun K "provinces_with_units" "Table.provinces_with_units" bS f fd)(T:Txt K mg ad) :FnOk P w K mg base CX0 1 f fd ["self"] (dG K P w ad):=by
 refine F.ok iZ (fun vs H Q E h=>?_) (fun _ A _ s H vs Q E hr h=>?_)
 ·obtain⟨tb,A,t,rfl,_⟩:=h;rfl
 ·obtain⟨tb,A,t,rfl,hT,k⟩:=h;refine⟨_,(sO (sR (bI (cr_sortedK rfl) rfl T.n_sorted PyProof.Rows.boot_sorted (pC (eF (pv 0) rfl) pN)))),?_⟩
  walk_at "rd";obtain⟨us,h1,h2,h3,h4⟩:=hT.units;have hlen:us.length=t.men.length:=by rw [<-h2.length_eq,List.length_map]
  refine⟨_,_,_,hT.obj,T.cl_Table,T.nf_Table_units,_,aE,A.un,_,us.map fun u=>((u.1.prov:Nat):Int),rfl,h1,by rw [List.map_map,List.map_map];rfl,by rw [List.length_map,hlen];exact Nat.lt_of_le_of_lt hT.wf.men (by decide),fun ns p hp hs hn=>k p _ (Same.new hn) hn ?_⟩
  have e:ns=nI (t.men.map fun m=>m.prov):=by
   refine sorted_eq (hp.trans ?_) hs (men_sorted hT.wf)
   have:=(h2.map fun m=>((m.prov:Nat):Int))
   rw [List.map_map] at this;unfold nI;rw [List.map_map];exact this
  rw [uS,e,iV]
def TabFs (fs:List (Str×V)):Prop:=fs=[]\/∃ a b c d,fs=aQ a b c d
theorem mk_Table {fs:List (Str×V)}(h:TabFs fs){a b c d:V}:bK "units" d (bK "sea_links" c (bK "land_links" b (bK "provinces" a fs)))=aQ a b c d:=by
 rcases h with rfl | ⟨x,y,z,u,rfl⟩
 ·with_unfolding_all rfl
 ·rw [f_Table_put_provinces,f_Table_put_land_links,f_Table_put_sea_links,f_Table_put_units]
theorem TabFs.few {fs:List (Str×V)}(h:TabFs fs):fs.length<=4:=by
 rcases h with rfl | ⟨x,y,z,u,rfl⟩
 ·exact Nat.zero_le _
 ·exact Nat.le_refl _
theorem wf_start:WF Vbsoac.start where
 few:=Nat.zero_le _
 prov:=fun p hp=>nomatch hp
 once:=fun i j w hi=>nomatch hi
 land:=Nat.zero_le _
 lands:=fun e he=>nomatch he
 sea:=Nat.zero_le _
 seas:=fun e he=>nomatch he
 men:=Nat.zero_le _
 sorted:=.nil
 man:=fun m hm=>nomatch hm
def jU:SP:=fun K P w ad vs H Q _=>∃ (tb dx:Addr)(fs:List (Str×V)),vs=[.ref tb]/\H tb=some (.ins ad.cTable dx fs)/\TabFs fs /\
 ∀ A' H',TabAt K P w {ad with fx:=A'.pv} H' tb A' Vbsoac.start->H A'.pv=none->(∀ b o,H b=some o->b≠tb->H' b=some o)->Q .non H'
def sp_Table___init__:SP:=fun K P w ad vs H Q _=>∃ (tb dx:Addr),vs=[.ref tb]/\H tb=some (.ins ad.cTable dx []) /\
 ∀ A' H',TabAt K P w {ad with fx:=A'.pv} H' tb A' Vbsoac.start->H A'.pv=none->(∀ b o,H b=some o->b≠tb->H' b=some o)->Q .non H'
theorem TabAt.retag {tb z z':Addr}{t:Table}(h:TabAt K P w {ad with fx:=z} H tb A t)(he:t.map.provinces=[])(hz:∃ l,H z'=some (.lst l)):TabAt K P w {ad with fx:=z'} H tb A t:=by
 obtain⟨h1,⟨qs,h2,h3⟩,h4,h5,h6,h7,h8⟩:=h;refine⟨h1,⟨qs,h2,?_⟩,h4,h5,h6,h7,hz⟩
 rw [he] at h3 ⊢;cases h3;exact .nil
def rdO (ad:Adr)(dx a:Addr)(i:Nat):HO:=.ins ad.cReader dx (bU (.ref a) (.int (i:Int)))
def kW:SP:=fun K P w ad vs H Q _=>∃ (rd dx a:Addr)(ns:List Int)(i:Nat),vs=[.ref rd]/\H rd=some (rdO ad dx a i)/\SqL K H a (ns.map V.int)/\Q (.bl (decide (i < ns.length))) H
def iF:SP:=fun K P w ad vs H Q _=>∃ (rd dx a:Addr)(ns:List Int)(i:Nat) (n:Int),vs=[.ref rd]/\H rd=some (rdO ad dx a i)/\SqL K H a (ns.map V.int)/\ns[i]?=some n/\Q (.int n) (upd H rd (rdO ad dx a (i+1)))
def gX:SP:=fun K P w ad vs H Q _=>∃ (rd dx a:Addr)(ns:List Int)(i k:Nat),vs=[.ref rd,.int k]/\H rd=some (rdO ad dx a i)/\SqL K H a (ns.map V.int)/\i+k<=ns.length /\
 ∀ p,H p=none->Q (.ref p) (upd (upd H p (.lst (((ns.drop i).take k).map V.int))) rd (rdO ad dx a (i+k)))
def kU:SP:=fun K P w ad vs H Q _=>∃ (rd dx a:Addr)(ns:List Int)(i k:Nat),vs=[.ref rd]/\H rd=some (rdO ad dx a i)/\SqL K H a (ns.map V.int)/\ns[i]?=some (k:Int)/\i+1+k<=ns.length /\
 ∀ p,H p=none->Q (.ref p) (upd (upd H p (.lst (((ns.drop (i+1)).take k).map V.int))) rd (rdO ad dx a (i+1+k)))
theorem cutV_mid {xs:List V}{i m:Nat}(h:i+m<=xs.length):kC xs (some (i:Int)) (some ((i:Int)+(m:Int)))=(xs.drop i).take m:=by
 unfold kC;have e:((i:Int)+(m:Int))=((i+m:Nat):Int):=by omega
 rw [e,HT.sIx_nat,HT.sIx_nat,Nat.min_eq_left (show i<=xs.length by omega),Nat.min_eq_left h]
 congr 1
 omega
theorem upd_comm {a b:Addr}{o u:HO}(h:a≠b):upd (upd H b o) a u=upd (upd H a u) b o:=by
 funext c
 unfold upd;by_cases z:c=a
 ·subst z;rw [if_pos rfl,if_neg h,if_pos rfl]
 ·rw [if_neg z,if_neg z]
theorem sql_upd {a b:Addr}{xs:List V}{C dx:Addr}{fs:List (Str×V)}{o:HO}(h:SqL K H a xs)(hb:H b=some (.ins C dx fs)):SqL K (upd H b o) a xs:=by
 rcases h with (h | ⟨o',h⟩) | h
 ·exact .inl (.inl (by rw [uN (bB h hb (by intro z;cases z))];exact h))
 ·exact .inl (.inr ⟨o',by rw [uN (bB h hb (by intro z;cases z))];exact h⟩)
 ·exact .inr h
abbrev gG:=MO Adr.cTable "make_empty" 1 ["self"] jU
theorem ok_Table_make_empty (F:Fun K "make_empty" "Table.make_empty" fF f fd)(T:Txt K mg ad) :FnOk P w K mg base CX0 1 f fd ["self"] (jU K P w ad):=by
 refine F.ok sc_Table_make_empty (fun vs H Q E h=>?_) (fun _ A _ s H vs Q E hr h=>?_)
 ·obtain⟨tb,dx,fs,rfl,_⟩:=h;rfl
 ·obtain⟨tb,dx,fs,rfl,h0,hf,k⟩:=h
  refine⟨_,(sC (cH (pv 0) (aT pN) rfl)
   (sC (cH (pv 0) pe_dnewT rfl)
   (sC (cH (pv 0) pe_dnewN rfl)
   (sO (cH (pv 0) pe_dnewK rfl))))),?_⟩
  have hfew:=hf.few;walk_at "rd";refine⟨Nat.zero_le _,fun p1 n1=>?_⟩
  have t1:tb≠p1:=nN h0 n1
  refine⟨_,_,_,by rw [uN t1];exact h0,T.cl_Table,T.nf_Table_provinces,by omega,fun p2 n2=>?_⟩
  have t2:tb≠p2:=fun e=>by rw [<-e,uS] at n2;cases n2
  have t12:p1≠p2:=fun e=>by rw [<-e,uN (Ne.symm t1),uS] at n2;cases n2
  have l1:=put_le (f := "provinces") (v:=.ref p1) (fs:=fs)
  refine⟨_,_,_,by rw [uN t2,uS],T.cl_Table,T.nf_Table_land_links,by omega,fun p3 n3 nest=>?_⟩
  have t3:tb≠p3:=fun e=>by rw [<-e,uS] at n3;cases n3
  have t23:p2≠p3:=fun e=>by rw [<-e,uN (Ne.symm t2),uS] at n3;cases n3
  have t13:p1≠p3:=fun e=>by rw [<-e,uN (Ne.symm t1),uN t12,uN (Ne.symm t1),uS] at n3;cases n3
  have l2:=put_le (f := "land_links") (v:=.ref p2) (fs:=bK "provinces" (.ref p1) fs)
  refine⟨_,_,_,by rw [uN t3,uS],T.cl_Table,T.nf_Table_sea_links,by omega,fun p4 n4=>?_⟩
  have t4:tb≠p4:=fun e=>by rw [<-e,uS] at n4;cases n4
  have t34:p3≠p4:=fun e=>by rw [<-e,uN (Ne.symm t3),uS] at n4;cases n4
  have t24:p2≠p4:=fun e=>by rw [<-e,uN (Ne.symm t2),uN t23,uN (Ne.symm t2),uS] at n4;cases n4
  have t14:p1≠p4:=fun e=>by rw [<-e,uN (Ne.symm t1),uN t13,uN (Ne.symm t1),uN t12,uN (Ne.symm t1),uS] at n4;cases n4
  have l3:=put_le (f := "sea_links") (v:=.ref p3) (fs:=bK "land_links" (.ref p2) (bK "provinces" (.ref p1) fs))
  refine⟨_,_,_,by rw [uN t4,uS],T.cl_Table,T.nf_Table_units,by omega,?_⟩
  have nest2:=nest;obtain⟨z1,z2,xs,z3,z4⟩:=nest2;cases z4;rw [mk_Table hf];refine k ⟨dx,p1,p2,p3,p4⟩ _ ⟨uS,⟨[],?_,.nil⟩,?_,⟨z1,z2,[],?_,.nil⟩,⟨[],?_,.nil,.nil,fun u hu=>nomatch hu⟩,wf_start,[],?_⟩ n1 fun b o e hb=>?_
  ·show upd _ tb _ p1=_
   rw [uN (Ne.symm t1),uN t14,uN (Ne.symm t1),uN t13,uN (Ne.symm t1),uN t12,uN (Ne.symm t1),uS];rfl
  ·show upd _ tb _ p2=_
   rw [uN (Ne.symm t2),uN t24,uN (Ne.symm t2),uN t23,uN (Ne.symm t2),uS];rfl
  ·show upd _ tb _ p3=_
   rw [uN (Ne.symm t3),uN t34,uN (Ne.symm t3),uS]
  ·show upd _ tb _ p4=_
   rw [uN (Ne.symm t4),uS];rfl
  ·show upd _ tb _ p1=_
   rw [uN (Ne.symm t1),uN t14,uN (Ne.symm t1),uN t13,uN (Ne.symm t1),uN t12,uN (Ne.symm t1),uS]
  ·have b1:b≠p1:=nN e n1
   have b2:b≠p2:=fun z=>by rw [<-z,uN hb,uN b1,e] at n2;cases n2
   have b3:b≠p3:=fun z=>by rw [<-z,uN hb,uN b2,uN hb,uN b1,e] at n3;cases n3
   have b4:b≠p4:=fun z=>by rw [<-z,uN hb,uN b3,uN hb,uN b2,uN hb,uN b1,e] at n4;cases n4
   rw [uN hb,uN b4,uN hb,uN b3,uN hb,uN b2,uN hb,uN b1,e]
abbrev O_Table:=KO "Table" Adr.cTable 2 ["self"] sp_Table___init__
theorem ok_Table___init__ (F:Fun K "__init__" "Table.__init__" gS f fd)(T:Txt K mg ad)(D_Table_make_empty:gG P w K mg base ad):FnOk P w K mg base CX0 2 f fd ["self"] (sp_Table___init__ K P w ad):=by
 refine F.ok sc_Table___init__ (fun vs H Q E h=>?_) (fun _ A _ s H vs Q E hr h=>?_)
 ·obtain⟨tb,dx,rfl,_⟩:=h;rfl
 ·obtain⟨tb,dx,rfl,h0,k⟩:=h;refine⟨_,(sO (bZ (aU (pv 0) T.cl_Table D_Table_make_empty hr))),?_⟩
  walk_at "rd";exact⟨_,_,h0,rfl,tb,dx,[],rfl,h0,.inl rfl,k⟩
abbrev iB:=MO Adr.cReader "has_more" 1 ["self"] kW
theorem ok_Reader_has_more (F:Fun K "has_more" "Reader.has_more" fZ f fd)(T:Txt K mg ad) :FnOk P w K mg base CX0 1 f fd ["self"] (kW K P w ad):=by
 refine F.ok sc_Reader_has_more (fun vs H Q E h=>?_) (fun _ A _ s H vs Q E hr h=>?_)
 ·obtain⟨rd,dx,a,ns,i,rfl,_⟩:=h;rfl
 ·obtain⟨rd,dx,a,ns,i,rfl,h0,hS,k⟩:=h;refine⟨_,(sO (sR (eB op_lt (eF (pv 0) rfl) (aR T.n_len (pC (eF (pv 0) rfl) pN)) (nMk _)))),?_⟩
  walk_at "rd";refine⟨_,_,_,h0,T.cl_Reader,T.nf_Reader_place,_,dD,_,_,_,h0,T.cl_Reader,T.nf_Reader_numbers,_,iT,_,rfl,_,.inl hS,_,rfl,?_⟩
  rw [List.length_map];have e:decide ((i:Int) < (ns.length:Int))=decide (i < ns.length):=decide_eq_decide.mpr (by omega)
  rw [e];exact k
abbrev bW:=MO Adr.cReader "take_number" 1 ["self"] iF
theorem ok_Reader_take_number (F:Fun K "take_number" "Reader.take_number" dU f fd)(T:Txt K mg ad) :FnOk P w K mg base CX0 1 f fd ["self"] (iF K P w ad):=by
 refine F.ok sc_Reader_take_number (fun vs H Q E h=>?_) (fun _ A _ s H vs Q E hr h=>?_)
 ·obtain⟨rd,dx,a,ns,i,n,rfl,_⟩:=h;rfl
 ·obtain⟨rd,dx,a,ns,i,n,rfl,h0,hS,hn,k⟩:=h
  refine⟨_,(sC (aD (i:=1) sc_Reader_take_number.nd rfl (Or.inl rfl) (aN aP (eF (pv 0) rfl) (eF (pv 0) rfl) (fun _ _=>rfl)))
   (sC (cH (pv 0) (pe_op op_add (eF (pv 0) rfl) eJ) rfl)
   (sO (sR (pv 1))))),?_⟩
  walk_at "rd";refine⟨_,_,_,h0,T.cl_Reader,T.nf_Reader_numbers,_,iT,_,_,_,h0,T.cl_Reader,T.nf_Reader_place,_,dD,_,rfl,_,_,rfl,hS,_,aV (j:=i) (by rw [List.getElem?_map,hn];rfl),_,_,_,h0,T.cl_Reader,T.nf_Reader_place,_,dD,_,rfl,_,_,_,h0,T.cl_Reader,T.nf_Reader_place,by rw [f_Reader_len];decide,?_⟩
  rw [f_Reader_put_place];exact k
abbrev bM:=MO Adr.cReader "take_numbers" 1 ["self","how_many"] gX
theorem ok_Reader_take_numbers (F:Fun K "take_numbers" "Reader.take_numbers" dJ f fd)(T:Txt K mg ad) :FnOk P w K mg base CX0 1 f fd ["self","how_many"] (gX K P w ad):=by
 refine F.ok sc_Reader_take_numbers (fun vs H Q E h=>?_) (fun _ A _ s H vs Q E hr h=>?_)
 ·obtain⟨rd,dx,a,ns,i,m,rfl,_⟩:=h;rfl
 ·obtain⟨rd,dx,a,ns,i,m,rfl,h0,hS,hn,k⟩:=h
  refine⟨_,(sC (aD (i:=2) sc_Reader_take_numbers.nd rfl (Or.inl rfl) (cS iU (eF (pv 0) rfl) (dL (eF (pv 0) rfl)) (dL (pe_op op_add (eF (pv 0) rfl) (pv 1)))))
   (sC (cH (pv 0) (pe_op op_add (eF (pv 0) rfl) (pv 1)) rfl)
   (sO (sR (pv 2))))),?_⟩
  walk_at "rd";refine⟨_,_,_,h0,T.cl_Reader,T.nf_Reader_numbers,_,iT,_,_,_,h0,T.cl_Reader,T.nf_Reader_place,_,dD,_,rfl,_,_,_,h0,T.cl_Reader,T.nf_Reader_place,_,dD,_,rfl,a,_,rfl,hS,fun p hp=>?_⟩
  have h1:upd H p (.lst (kC (ns.map V.int) (some (i:Int)) (some ((i:Int)+(m:Int))))) rd=some (rdO ad dx a i):=by rw [uN (nN h0 hp)];exact h0
  refine⟨_,_,_,h1,T.cl_Reader,T.nf_Reader_place,_,dD,_,rfl,_,_,_,h1,T.cl_Reader,T.nf_Reader_place,by rw [f_Reader_len];decide,?_⟩
  rw [f_Reader_put_place,cutV_mid (by rw [List.length_map];exact hn)]
  have:=k p hp
  rw [List.map_take,List.map_drop] at this;exact this
abbrev eK:=MO Adr.cReader "take_row" 2 ["self"] kU
theorem ok_Reader_take_row (F:Fun K "take_row" "Reader.take_row" fY f fd)(T:Txt K mg ad)(D_Reader_take_numbers:bM P w K mg base ad)(D_Reader_take_number:bW P w K mg base ad):FnOk P w K mg base CX0 2 f fd ["self"] (kU K P w ad):=by
 refine F.ok sc_Reader_take_row (fun vs H Q E h=>?_) (fun _ A _ s H vs Q E hr h=>?_)
 ·obtain⟨rd,dx,a,ns,i,m,rfl,_⟩:=h;rfl
 ·obtain⟨rd,dx,a,ns,i,m,rfl,h0,hS,hn,hm,k⟩:=h;refine⟨_,(sO (sR (aH (pv 0) T.cl_Reader D_Reader_take_numbers hr (pC (aU (pv 0) T.cl_Reader D_Reader_take_number hr) pN)))),?_⟩
  walk_at "rd";refine⟨_,_,h0,bP,_,_,h0,aO,rd,dx,a,ns,i,m,rfl,h0,hS,hn,rd,dx,a,ns,i+1,m,rfl,uS,sql_upd hS h0,hm,fun p hp=>?_⟩
  have hne:p≠rd:=fun e=>by rw [e,uS] at hp;cases hp
  have hp0:H p=none:=by rw [uN hne] at hp;exact hp
  have:=k p hp0
  rw [upd_comm hne,cB];exact this
def iC:SP:=fun K P w ad vs H Q _=>∃ (a:Addr) (k:Int)(ws:List Bytes)(qs:List Addr),vs=[.int k,.ref a]/\H a=some (.lst (qs.map V.ref))/\WordsAt H ws qs/\(∀ x∈ws,x.length<=1000)/\∀ H',Same H H'->Q (.bl (dC k ws)) H'
def Post (K:W.Frag)(P:Program)(w:World)(ad:Adr)(tb:Addr)(A:TAd)(H:Hp)(t:Table)(c:Call)(Q:VK):Prop :=
 ∀ A' H' r,TabAt K P w ad H' tb A' (Vbsoac.step t c).1->(A'.pv=A.pv\/H A'.pv=none)->KeepF A.pv H H'->(Vbsoac.step t c).2=[r]->Q (.int r) H'
theorem Post.no {H H':Hp}{t:Table}{c:Call}{Q:VK}{r:Int}(k:Post K P w ad tb A H t c Q)(hT:TabAt K P w ad H tb A t)(s:Same H H')(e:Vbsoac.step t c=(t,[r])):Q (.int r) H' :=
 k A H' r (by rw [e];exact hT.same s) (.inl rfl) (Same.keepF s _) (by rw [e])
abbrev jG:=DO "are_fitting_shores" 3 ["kind","shores"] iC
theorem ok_are_fitting_shores (F:Fun K "are_fitting_shores" "are_fitting_shores" cK f fd)(T:Txt K mg ad)(D_is_shore_name:O_is_shore_name P w K mg base ad):FnOk P w K mg base CX0 3 f fd ["kind","shores"] (iC K P w ad):=by
 refine F.ok sc_are_fitting_shores (fun vs H Q E h=>?_) (fun _ A _ s H vs Q E hr h=>?_)
 ·obtain⟨a,k,ws,qs,rfl,_⟩:=h;rfl
 ·obtain⟨a,k,ws,qs,rfl,h1,h2,h3,kk⟩:=h;have hu64:=hr.units;have hl:ws.length=qs.length:=Paired.length h2
  refine⟨_,(sC (aB (tR aM (aR T.n_len (pC (pv 1) pN)) eJ (nMk _)) (sO (sR pe_bl)) sN)
   (sC (aB (PW.pt (pw_or (tR op_ne (pv 0) (eG rfl T.g_COAST) (nMk _)) (pw_or1 (gB (pt_chain hU hU (eG rfl T.g_FEWEST_SHORES) (aR T.n_len (pC (pv 1) pN)) (eG rfl T.g_MOST_SHORES)))))) (sO (sR pe_bl)) sN)
   (sO (sR (pe_and (bI (cr_all rfl) rfl T.n_all PyProof.Rows.boot_all (pC (pe_lc rfl sc_are_fitting_shores.nd (jX (pv 1)) (eT (own:=[("shore",2)]) (show blkC ["kind","shores","shore"] (dS cK) _ _=true by decide +kernel)) (fun _ _ _ _ _=>(cY (i:=2) sc_are_fitting_shores.nd rfl (Or.inl rfl))) (fun _ _ _ _ _=>pts_nil) (fun _ _ _ _ _=>(eD D_is_shore_name hr (pC (pv 2) pN)))) pN)) (jO (eB aM (bI call_lenS rfl T.n_len PySem.boot_len (pC (gI (call_setT rfl hu64) rfl T.n_set PyProof.Rows.boot_set (pC (pv 1) pN)) pN)) (aR T.n_len (pC (pv 1) pN)) (nMk _)))))))),?_⟩
  walk_at "rd";refine⟨_,.inl (SqL.of h1),rfl,?_⟩
  rw [List.length_map,<-hl];by_cases z:ws.length=0
  ·rw [if_pos (by rw [z];rfl)]
   have:=kk H (Same.refl _)
   rw [List.length_eq_zero_iff.mp z,fit_nil] at this;exact this
  ·rw [if_neg (by omega)];have zne:ws≠[]:=fun e=>z (by rw [e];rfl)
   refine⟨rfl,?_⟩
   by_cases hk:k=2
   ·rw [if_neg (by simpa using hk)]
    refine⟨_,.inl (SqL.of h1),?_⟩
    rw [List.length_map,<-hl];by_cases l2:2<=ws.length
    ·rw [if_pos (by omega)];by_cases l4:ws.length<=4
     ·rw [if_neg (by omega)];rw [fit_yes hk l2 l4] at kk;refine lc_list2 (K:=K) (a:=a) (xs:=qs.map V.ref) (ws.map fun x=>V.bl (shoreName x)) (by rw [List.length_map,List.length_map];exact hl) (fun R hR=>⟨_,rfl,_,rfl,⟨_,SqL.of h1⟩,hR⟩) (SqL.of h1) (by rw [List.length_map,<-hl];exact Nat.le_trans l4 (by decide)) (fun i x y H1 R hx hy s1 hR=>?_) (fun D H1 hD s1 hlD=>?_)
      ·rw [List.getElem?_map] at hx hy;obtain⟨q,hq,rfl⟩:=Option.map_eq_some_iff.mp hx;obtain⟨p,hp,rfl⟩:=Option.map_eq_some_iff.mp hy;obtain⟨q',hq',hpq⟩:=Paired.at_ h2 hp;have e:q'=q:=Option.some.inj (hq'.symm.trans hq)
       subst e;walk_at "rd";exact⟨q',p,rfl,SqT.of (s1 _ _ hpq),Nat.le_trans (h3 p (List.mem_of_getElem? hp)) (by decide),hR⟩
      ·refine⟨D,rfl,ws.map shoreName,SqL.of (by rw [hlD,List.map_map];rfl),?_⟩
       rw [List.all_map];by_cases ha:ws.all (id ∘ shoreName)=true
       ·rw [if_pos ha];have ha':ws.all shoreName=true:=ha
        rw [ha',Bool.true_and] at kk;refine⟨qs,SqL.of (s1 _ _ h1),ws.map keysOf,?_,by rw [<-hl];exact l4,fun S n hS hn hnd=>⟨n,uS,_,.inl (SqL.of (by rw [uN (nN (s1 _ _ h1) hS)];exact s1 _ _ h1)),rfl,?_⟩⟩
        ·have go:∀ {ws:List Bytes}{qs:List Addr},WordsAt H ws qs->Paired (fun ks p=>H1 p=some (.tup (ks.map kV))) (ws.map keysOf) qs:=by
          intro ws qs z;induction z with
          | nil=>exact .nil
          | cons a _ ih=>exact .cons (by rw [keysOf_kV];exact s1 _ _ a) ih
         exact go h2
        ·rw [List.length_map] at hn hnd ⊢;rw [<-hl];have:=kk (upd H1 S (setD S n)) (s1.upd (s1.free hS))
         have e:decide ((n:Int)=(ws.length:Int))=Vbsoab.distinctWords ws:=by
          refine Bool.eq_iff_iff.mpr ?_
          rw [decide_eq_true_eq,distinct_iff,<-hnd];omega
         rw [e];exact this
       ·rw [if_neg ha];have ha':ws.all shoreName=false:=by simpa using ha
        have:=kk H1 s1
        rw [ha',Bool.false_and] at this;exact this
     ·rw [if_pos (by omega)];have:=kk H (Same.refl _)
      rw [fit_no zne (.inr (by omega))] at this;exact this
    ·rw [if_neg (by omega),if_pos trivial];have:=kk H (Same.refl _)
     rw [fit_no zne (.inr (by omega))] at this;exact this
   ·rw [if_pos hk,if_pos trivial];have:=kk H (Same.refl _)
    rw [fit_no zne (.inl hk)] at this;exact this
def sp_add_province:SP:=fun K P w ad vs H Q _=>∃ (tb an as aw:Addr)(A:TAd)(t:Table) (k:Int)(n s u:List Int),vs=[.ref tb,.int k,.ref an,.ref as,.ref aw]/\TabAt K P w ad H tb A t /\
 SqL K H an (n.map V.int)/\SqL K H as (s.map V.int)/\SqL K H aw (u.map V.int)/\n.length<=100/\s.length<=100/\u.length<=100/\Post K P w ad tb A H t (.province k n s u) Q
theorem isText_eq (l:List Int)(m:Nat):(decide ((l.length:Int)<=(m:Int))&&l.all inByte)=isText m l:=by
 unfold isText;congr 1
 exact decide_eq_decide.mpr (by omega)
theorem jD {l:List Int}{m:Nat}(h:isText m l=true):l.map V.int=bv (nats l)/\(nats l).length=l.length/\l.length<=m:=by
 unfold isText at h;rw [Bool.and_eq_true,decide_eq_true_eq] at h;refine⟨?_,List.length_map _,h.1⟩
 unfold bv nats;rw [List.map_map];refine List.map_congr_left fun x hx=>?_
 have:=List.all_eq_true.mp h.2 x hx
 unfold Vbsoac.within at this;rw [Bool.and_eq_true,decide_eq_true_eq,decide_eq_true_eq] at this;simp only [Function.comp,V.int.injEq];omega
theorem named_len {lo hi:Nat}{l:Bytes}(h:named lo hi l=true):lo+1<=l.length/\l.length<=hi+1:=by
 cases l with
 | nil=>simp [named] at h
 | cons c r =>
  simp only [named,Bool.and_eq_true,decide_eq_true_eq] at h;simp only [List.length_cons];omega
theorem tab_add_prov {t:Table}{p:Vbsoab.Province}{q:Addr}{qs:List Addr}(hT:TabAt K P w ad H tb A t)(hq:ProvAt ad H A.pv p q)(hv:H A.pv=some (.lst (qs.map V.ref)))
  (wf:WF {t with map:={t.map with provinces:=t.map.provinces++[p]}}):TabAt K P w ad (upd H A.pv (.lst (qs.map V.ref++[V.ref q]))) tb A {t with map:={t.map with provinces:=t.map.provinces++[p]}}:=by
 have ne:∀ b o,H b=some o->(∀ xs,o≠.lst xs)->upd H A.pv (.lst (qs.map V.ref++[V.ref q])) b=some o:=fun b o h k=>by
  rw [uN (bB h hv (k _))];exact h
 obtain⟨h1,⟨qs',h2,h3⟩,h4,h5,⟨us,h6,h7,h8,h9⟩,h10,⟨fl,h11⟩⟩:=hT
 have eq:qs'=qs:=by
  rw [hv] at h2;have:=HO.lst.inj (Option.some.inj h2)
  have inj:∀ {l m:List Addr},l.map V.ref=m.map V.ref->l=m:=by
   intro l;induction l with
   | nil=>intro m e;cases m <;> simp_all
   | cons a l ih =>
    intro m e;cases m with
    | nil=>simp at e
    | cons b m =>
     simp only [List.map_cons,List.cons.injEq,V.ref.injEq] at e;rw [e.1,ih e.2]
  exact(inj this).symm
 subst eq
 have kp:∀ b o,b≠A.pv->H b=some o->tabK o=true->upd H A.pv (.lst (qs'.map V.ref++[V.ref q])) b=some o:=fun b o hb h _=>by
  rw [uN hb];exact h
 refine⟨ne _ _ h1 (fun _ e=>nomatch e),⟨qs'++[q],?_,?_⟩,ne _ _ h4 (fun _ e=>nomatch e),?_,⟨us,ne _ _ h6 (fun _ e=>nomatch e),h7,h8,fun u hu=>?_⟩,wf,?_⟩
 ·rw [uS,List.map_append];rfl
 ·exact Paired.snoc (hq.mono kp ⟨_,hv⟩) (Paired.mapP h3 fun _ _ z=>z.mono kp ⟨_,hv⟩)
 ·refine h5.mono ?_ fun b xs e=>ne _ _ e (fun _ z=>nomatch z)
  obtain⟨_,_,xs,e,_⟩:=h5;rw [e];exact ne _ _ e (fun _ z=>nomatch z)
 ·obtain⟨dx,o,g1,g2⟩:=h9 u hu;refine⟨dx,o,ne _ _ g1 (fun _ z=>nomatch z),?_⟩
  rcases g2 with (g2 | ⟨ob,g2⟩) | g2
  ·exact .inl (.inl (ne _ _ g2 (fun _ z=>nomatch z)))
  ·exact .inl (.inr ⟨ob,ne _ _ g2 (fun _ z=>nomatch z)⟩)
  ·exact .inr g2
 ·by_cases e:ad.fx=A.pv
  ·rw [e];exact⟨_,uS⟩
  ·exact⟨fl,by rw [uN e];exact h11⟩
abbrev O_add_province:=DO "add_province" 4 ["table","kind","name_row","short_name_row","shores_row"] sp_add_province
theorem ok_add_province (F:Fun K "add_province" "add_province" fR f fd)(T:Txt K mg ad)(D_Province:O_Province P w K mg base ad)(D_Table_has_name:O_Table_has_name P w K mg base ad)(D_are_fitting_shores:jG P w K mg base ad)(D_is_short_name:O_is_short_name P w K mg base ad)(D_is_name:O_is_name P w K mg base ad)(D_words_of:O_words_of P w K mg base ad)(D_is_text:O_is_text P w K mg base ad):FnOk P w K mg base CX0 4 f fd ["table","kind","name_row","short_name_row","shores_row"] (sp_add_province K P w ad):=by
 refine F.ok sc_add_province (fun vs H Q E h=>?_) (fun _ A _ s H vs Q E hr h=>?_)
 ·obtain⟨tb,an,as,aw,A,t,k,n,s,u,rfl,_⟩:=h;rfl
 ·obtain⟨tb,an,as,aw,A,t,k,n,s',u,rfl,hT,hn,hs,hw,ln,ls,lw,post⟩:=h;have hu64:=hr.units
  refine⟨_,(sC (aB (tR op_notIn_seq (pv 1) (eM (pC (eG rfl T.g_LAND) (pC (eG rfl T.g_SEA) (pC (eG rfl T.g_COAST) pN)))) (by with_unfolding_all rfl)) (sO (sR (eG rfl T.g_OUT_OF_RANGE))) sN)
   (sC (aB (gB (aX (bI (cr_all rfl) rfl T.n_all PyProof.Rows.boot_all (pC (pe_lc rfl sc_add_province.nd (pi_tup (eM (pC (pv 2) (pC (pv 3) (pC (pv 4) pN))))) (eT (own:=[("row",8)]) (show blkC ["table","kind","name_row","short_name_row","shores_row","name","short_name","shores","row"] (dS fR) _ _=true by decide +kernel)) (fun _ _ _ _ _=>(cY (i:=8) sc_add_province.nd rfl (Or.inl rfl))) (fun _ _ _ _ _=>pts_nil) (fun _ _ _ _ _=>(eD D_is_text hr (pC (pv 8) (pC (eG rfl T.g_LONGEST_TEXT_building) pN))))) pN)))) (sO (sR (eG rfl T.g_OUT_OF_RANGE))) sN)
   (sC (aD (i:=5) sc_add_province.nd rfl (Or.inl rfl) (gI dP rfl T.n_tuple PyProof.Rows.boot_tuple (pC (pv 2) pN)))
   (sC (aD (i:=6) sc_add_province.nd rfl (Or.inl rfl) (gI dP rfl T.n_tuple PyProof.Rows.boot_tuple (pC (pv 3) pN)))
   (sC (aD (i:=7) sc_add_province.nd rfl (Or.inl rfl) (eD D_words_of hr (pC (pv 4) pN)))
   (sC (aB (gB (PW.pt (iS (aX (eD D_is_name hr (pC (pv 5) pN))) (iS (aX (eD D_is_short_name hr (pC (pv 6) pN))) (gZ (aX (eD D_are_fitting_shores hr (pC (pv 1) (pC (pv 7) pN))))))))) (sO (sR (eG rfl T.g_UNFIT))) sN)
   (sC (aB (PW.pt (pw_or (aX (aH (pv 0) T.cl_Table D_Table_has_name hr (pC (pv 5) pN))) (pw_or (aX (aH (pv 0) T.cl_Table D_Table_has_name hr (pC (pv 6) pN))) (pw_or1 (tR (op_eqD hu64) (pv 5) (pv 6) (nMk _)))))) (sO (sR (eG rfl T.g_TAKEN))) sN)
   (sC (aB (tR aM (aR T.n_len (pC (eF (pv 0) rfl) pN)) (eG rfl T.g_MOST_PROVINCES) (nMk _)) (sO (sR (eG rfl T.g_FULL))) sN)
   (sC (bZ (jA PySem.F.plainAttrs_list PySem.F.slot_list_append PySem.F.type_list_append dA (eF (pv 0) rfl) (pC (dO D_Province hr (pC (pv 1) (pC (pv 5) (pC (pv 6) (pC (pv 7) pN))))) pN)))
   (sO (sR (pe_op op_sub (aR T.n_len (pC (eF (pv 0) rfl) pN)) eJ)))))))))))),?_⟩
  walk_at "s1";refine⟨by decide,fun p0 n0=>⟨p0,_,rfl,.inr (SqT.of uS),rfl,rfl,_,rfl,?_⟩⟩
  have s0:Same H (upd H p0 (.tup [V.int 0,V.int 1,V.int 2])):=Same.new n0
  have ein:inV (.int k) [V.int 0,V.int 1,V.int 2]=Vbsoac.within k 0 2:=by
   unfold inV Vbsoac.within;refine Bool.eq_iff_iff.mpr ?_
   simp only [List.any_cons,List.any_nil,eqV,Bool.or_false,Bool.or_eq_true,beq_iff_eq,Bool.and_eq_true,decide_eq_true_eq];omega
  rw [ein];cases c1:Vbsoac.within k 0 2 with
  | false =>
   rw [if_pos rfl];exact post.no hT s0 (by simp only [Vbsoac.step,c1,Bool.false_and,if_true])
  | true =>
  rw [if_neg (by decide),e1];clear e1 k1;generalize hH0:upd H p0 (.tup [V.int 0,V.int 1,V.int 2])=H0 at s0 ⊢;walk_at "s2";refine lc_wi (fun J H1=>∃ p1,H0 p1=none/\J=Itt K p1/\H1=upd H0 p1 (.tup [.ref an,.ref as,.ref aw])) (fun R hR=>⟨_,rfl,_,rfl,_,rfl,by show 3<=sizeLine;decide,fun p1 n1=>⟨_,rfl,⟨_,SqT.of uS⟩,hR _ _ ⟨p1,n1,rfl,rfl⟩⟩⟩) ?_
  rintro J H1 ⟨p1,n1,rfl,rfl⟩
  have s1:Same H (upd H0 p1 (.tup [.ref an,.ref as,.ref aw])):=s0.upd (s0.free n1)
  refine lc_tup2 (K:=K) (a:=p1) (xs:=[.ref an,.ref as,.ref aw]) [V.bl (isText 40 n),V.bl (isText 40 s'),V.bl (isText 40 u)] rfl (fun R hR=>hR) (SqT.of uS) (by show 3<=sizeLine;decide) (fun i x y H1 R hx hy s2 hR=>?_) (fun D H2 hD s2 hlD=>?_)
  ·have go:∀ (a:Addr)(l:List Int),SqL K H a (l.map V.int)->l.length<=100->x=.ref a->y=V.bl (isText 40 l)->tCall (sp_is_text K P w ad) [] E0 (tCons (tVar 8) (tCons (tC (V.int 40)) tNil)) ((bX [some (V.ref tb),some (V.int k),some (V.ref an),some (V.ref as),some (V.ref aw),none,none,none,none] [8]).set 8 (some x)) H1 R:=fun a l ha la ex ey=>by
    subst ex ey;walk_at "rd";refine⟨a,l,40,rfl,(s1.trans s2).seq ha,Nat.le_trans la (by decide),fun H' s'=>?_⟩
    have:=hR H' s'
    rw [<-isText_eq] at this;exact this
   match i,hx,hy with
   | 0,hx,hy=>exact go an n hn ln (Option.some.inj hx).symm (Option.some.inj hy).symm
   | 1,hx,hy=>exact go as s' hs ls (Option.some.inj hx).symm (Option.some.inj hy).symm
   | 2,hx,hy=>exact go aw u hw lw (Option.some.inj hx).symm (Option.some.inj hy).symm
   | i+3,hx,hy=>simp at hx
  ·have s3:=s1.trans s2;refine⟨D,rfl,[isText 40 n,isText 40 s',isText 40 u],SqL.of hlD,?_⟩
   have eall:[isText 40 n,isText 40 s',isText 40 u].all id=(isText 40 n&&(isText 40 s'&&isText 40 u)):=by simp
   rw [eall];cases c2:(isText 40 n&&(isText 40 s'&&isText 40 u)) with
   | false =>
    rw [if_pos rfl];exact post.no hT s3 (by simp only [Vbsoac.step,c1,c2,Bool.true_and,if_true])
   | true =>
   rw [if_neg (by decide),e2];clear e2 k2;have c2':=c2;rw [Bool.and_eq_true,Bool.and_eq_true] at c2';obtain⟨b1,b1',b1''⟩:=jD c2'.1;obtain⟨b2,b2',b2''⟩:=jD c2'.2.1;obtain⟨b3,b3',b3''⟩:=jD c2'.2.2;have hn3:=s3.seq hn;have hs3:=s3.seq hs;have hw3:=s3.seq hw;rw [b1] at hn3;rw [b2] at hs3;rw [b3] at hw3;generalize hnn:nats n=nn at *;generalize hss:nats s'=ss at *;generalize huu:nats u=uu at *
   have step:Vbsoac.step t (.province k n s' u)=(if (named 1 15 nn&&(named 2 2 ss&&dC k (Vbsoab.wordsOf uu)))=false then(t,[-3])
     else if nn=ss\/(exactly t.map nn).isSome=true\/(exactly t.map ss).isSome=true then(t,[-4])
     else if 40<=t.map.provinces.length then(t,[-2])
     else({t with map:={t.map with provinces:=t.map.provinces++[{name:=nn,short:=ss,kind:=k.toNat,shores:=Vbsoab.wordsOf uu}]}},Vbsoac.ints [t.map.provinces.length])):=by
    rw [<-hnn,<-hss,<-huu];simp only [Vbsoac.step,c1,c2,Bool.true_and,Bool.true_eq_false,if_false];rfl
   walk_at "s3";refine⟨_,.inl ⟨hn3,fun p2 n2=>?_⟩⟩
   walk_at "c3";walk_at "s4";have s4:Same H2 (upd H2 p2 (.tup (bv nn))):=Same.new n2
   have hp2:upd H2 p2 (.tup (bv nn)) p2=some (.tup (bv nn)):=uS
   generalize hH3:upd H2 p2 (.tup (bv nn))=H3 at s4 hp2 ⊢;refine⟨_,.inl ⟨s4.seq hs3,fun p3 n3=>?_⟩⟩
   walk_at "c4";walk_at "s5";have s5:Same H3 (upd H3 p3 (.tup (bv ss))):=Same.new n3
   have hp3:upd H3 p3 (.tup (bv ss)) p3=some (.tup (bv ss)):=uS
   generalize hH4:upd H3 p3 (.tup (bv ss))=H4 at s5 hp3 ⊢;refine⟨aw,uu,rfl,.inl (s5.seq (s4.seq hw3)),by rw [b3'];exact Nat.lt_of_le_of_lt lw (by decide),fun p4 qs H5 s6 n4 h4 h5=>?_⟩
   walk_at "c5";have s45:Same H2 H5:=(s4.trans s5).trans s6
   have s7:Same H H5:=s3.trans s45
   have hT5:=hT.same s7;have hp2':=s6 _ _ (s5 _ _ hp2);have hp3':=s6 _ _ hp3
   have hwl:∀ x∈Vbsoab.wordsOf uu,x.length<=1000:=fun x hx=>by
    have:=(words_each uu x hx).2.1
    omega
   walk_at "s6";refine⟨p2,nn,rfl,SqT.of hp2',by rw [b1'];exact Nat.le_trans ln (by decide),fun H6 s8=>⟨_,rfl,?_⟩⟩
   cases c3:named 1 15 nn with
   | false =>
    rw [if_neg (by decide),if_pos trivial];exact post.no hT (s7.trans s8) (by rw [step,c3,Bool.false_and,if_pos rfl])
   | true =>
   rw [if_pos rfl];refine⟨p3,ss,rfl,SqT.of (s8 _ _ hp3'),by rw [b2'];exact Nat.le_trans ls (by decide),fun H7 s9=>⟨_,rfl,?_⟩⟩
   cases c4:named 2 2 ss with
   | false =>
    rw [if_neg (by decide),if_pos trivial];exact post.no hT ((s7.trans s8).trans s9) (by rw [step,c3,c4,Bool.false_and,Bool.and_false,if_pos rfl])
   | true =>
   rw [if_pos rfl];have s89:=s8.trans s9;refine⟨p4,k,Vbsoab.wordsOf uu,qs,rfl,s89 _ _ h4,h5.mono fun b xs z=>s89 _ _ z,hwl,fun H8 s10=>⟨_,rfl,?_⟩⟩
   have s11:Same H5 H8:=s89.trans s10
   cases c5:dC k (Vbsoab.wordsOf uu) with
   | false =>
    rw [if_pos rfl];exact post.no hT (s7.trans s11) (by rw [step,c3,c4,c5,Bool.and_false,Bool.and_false,if_pos rfl])
   | true =>
   rw [if_neg (by decide),e6];clear e6 k6;rw [c3,c4,c5,Bool.true_and,Bool.true_and,if_neg (by decide)] at step;have s12:Same H H8:=s7.trans s11
   walk_at "s7";refine⟨_,_,(s11 _ _ hT5.obj),jV,tb,p2,A,t,nn,rfl,hT.same s12,SqT.of (s11 _ _ hp2'),fun H9 s13=>⟨_,rfl,?_⟩⟩
   cases c6:(exactly t.map nn).isSome with
   | true =>
    rw [if_pos rfl];exact post.no hT (s12.trans s13) (by rw [step,if_pos (.inr (.inl c6))])
   | false =>
   rw [if_neg (by decide)];refine⟨_,_,(s13 _ _ (s11 _ _ hT5.obj)),jV,tb,p3,A,t,ss,rfl,hT.same (s12.trans s13),SqT.of (s13 _ _ (s11 _ _ hp3')),fun H10 s14=>⟨_,rfl,?_⟩⟩
   have s15:Same H8 H10:=s13.trans s14
   cases c7:(exactly t.map ss).isSome with
   | true =>
    rw [if_pos rfl];exact post.no hT (s12.trans s15) (by rw [step,if_pos (.inr (.inr c7))])
   | false =>
   rw [if_neg (by decide)];have hp2'':=s15 _ _ (s11 _ _ hp2');have hp3'':=s15 _ _ (s11 _ _ hp3');refine eq_bv (SqT.of hp2'') (SqT.of hp3'') ⟨_,rfl,?_⟩
   by_cases c8:nn=ss
   ·rw [if_pos (by simpa using c8)]
    exact post.no hT (s12.trans s15) (by rw [step,if_pos (.inl c8)])
   rw [if_neg (by simpa using c8),e7]
   clear e7 k7;rw [if_neg (by intro z;rcases z with z | z | z;exact c8 z;rw [c6] at z;cases z;rw [c7] at z;cases z)] at step
   have s16:Same H H10:=s12.trans s15
   have hT10:=hT.same s16;obtain⟨vs,hv1,hv2⟩:=hT10.provs;have hvl:t.map.provinces.length=vs.length:=Paired.length hv2
   walk_at "s8";refine⟨_,_,_,hT10.obj,T.cl_Table,T.nf_Table_provinces,_,aC,_,rfl,_,.inl (SqL.of hv1),rfl,?_⟩
   rw [List.length_map,<-hvl];have few:=hT.wf.few;by_cases c9:t.map.provinces.length=40
   ·rw [if_pos (by rw [c9];rfl)]
    exact post.no hT s16 (by rw [step,if_pos (by omega)])
   rw [if_neg (by omega),e8];clear e8 k8;rw [if_neg (by omega)] at step;walk_at "s9";refine⟨_,_,_,hT10.obj,T.cl_Table,T.nf_Table_provinces,_,aC,tyl hv1,fun x dx nx ndx hdx=>⟨x,dx,_,_,_,_,rfl,uS,rfl,?_⟩⟩
   rw [cB];have sm:Same H10 (upd (upd H10 dx (.own x)) x (.ins ad.cProvince dx (aK (.int k) (.ref p2) (.ref p3) (.ref p4)))):=(Same.new ndx).upd nx
   have hx:upd (upd H10 dx (.own x)) x (.ins ad.cProvince dx (aK (.int k) (.ref p2) (.ref p3) (.ref p4))) x=some (.ins ad.cProvince dx (aK (.int k) (.ref p2) (.ref p3) (.ref p4))):=uS
   generalize hHm:upd (upd H10 dx (.own x)) x (.ins ad.cProvince dx (aK (.int k) (.ref p2) (.ref p3) (.ref p4)))=Hm at sm hx ⊢;refine⟨_,rfl,_,sm _ _ hv1,by rw [List.length_map,<-hvl];exact Nat.lt_of_le_of_lt few (by decide),?_⟩
   have hTm:=hT.same (s16.trans sm)
   have ek:((k.toNat:Nat):Int)=k:=by
    unfold Vbsoac.within at c1;rw [Bool.and_eq_true,decide_eq_true_eq,decide_eq_true_eq] at c1;omega
   have s17:Same H5 Hm:=(s11.trans s15).trans sm
   obtain⟨vs0,hv0,_⟩:=hT.provs
   have hq:ProvAt ad Hm A.pv {name:=nn,short:=ss,kind:=k.toNat,shores:=Vbsoab.wordsOf uu} x:=by
    refine⟨dx,p2,p3,p4,qs,?_,sm _ _ hp2'',sm _ _ hp3'',?_,s17 _ _ h4,h5.mono fun b xs z=>s17 _ _ z⟩
    ·rw [hx];show some (HO.ins ad.cProvince dx (aK (.int k) _ _ _))=some (HO.ins ad.cProvince dx (aK (.int ((k.toNat:Nat):Int)) _ _ _))
     rw [ek]
    ·obtain⟨fl,hfl⟩:=hT.fx;exact⟨Ne.symm (nN ((s3.trans (s4.trans s5)) _ _ hv0) n4),Ne.symm (nN ((s3.trans (s4.trans s5)) _ _ hfl) n4)⟩
   have fit:=c5;unfold dC at fit;simp only [Bool.and_eq_true,decide_eq_true_eq] at fit
   have wf':=wf_province hT.wf (p:={name:=nn,short:=ss,kind:=k.toNat,shores:=Vbsoab.wordsOf uu}) ⟨by
     have:=named_len c3
     show nn.length<=16
     omega,by
     have:=named_len c4
     show ss.length=3
     omega,fit.2.2.2.1,fun z hz=>by
     have:=List.all_eq_true.mp fit.1 z hz
     unfold shoreName at this;simp only [Bool.and_eq_true,decide_eq_true_eq] at this
     exact this.2.1⟩ c8 (by rw [c6];decide) (by rw [c7];decide) (by omega)
   have hTn:=tab_add_prov hTm hq (sm _ _ hv1) wf';rw [e9];walk_at "rd";refine⟨_,_,_,hTn.obj,T.cl_Table,T.nf_Table_provinces,_,aC,_,rfl,_,.inl (SqL.of uS),?_⟩
   refine post A _ _ (by rw [step];exact hTn) (.inl rfl) ?_ ?_
   ·intro b o hb hne _;rw [uN hne];exact(s16.trans sm) _ _ hb
   ·rw [step,List.length_append,List.length_map,<-hvl];simp [Vbsoac.ints]
def isD:HO->Bool
 | .dK _=>true
 | .dT _=>true
 | .ext _=>true
 | _=>false
theorem gD {d:Addr}{o':HO}(hd:∃ o,H d=some o/\isD o=true):∀ b o,H b=some o->isD o=false->upd H d o' b=some o:=fun b o h k=>by
 obtain⟨o1,h1,k1⟩:=hd;rw [uN (bB h h1 (fun e=>by rw [e,k1] at k;cases k))]
 exact h
theorem keepF_D {d pv:Addr}{o':HO}(hd:∃ o,H d=some o/\isD o=true):KeepF pv H (upd H d o'):=fun b o h _ k=>gD hd b o h (by cases o <;> first | rfl | exact absurd k (by simp [keepK]))
theorem provs_D {d pv:Addr}{o':HO}{ps:List Vbsoab.Province}(hd:∃ o,H d=some o/\isD o=true)(h:∃ qs,H pv=some (.lst (qs.map V.ref))/\Paired (ProvAt ad H pv) ps qs) :
  ∃ qs,upd H d o' pv=some (.lst (qs.map V.ref))/\Paired (ProvAt ad (upd H d o') pv) ps qs:=by
 obtain⟨qs,h1,h2⟩:=h;refine⟨qs,gD hd _ _ h1 rfl,Paired.mapP h2 fun p q z=>?_⟩
 obtain⟨dx,n,s,l,ws,g1,g2,g3,g4,g5,g6⟩:=z;exact⟨dx,n,s,l,ws,gD hd _ _ g1 rfl,gD hd _ _ g2 rfl,gD hd _ _ g3 rfl,g4,gD hd _ _ g5 rfl,g6.mono fun b xs e=>gD hd _ _ e rfl⟩
theorem fx_D {d fx:Addr}{o':HO}(hd:∃ o,H d=some o/\isD o=true)(h:∃ l,H fx=some (.lst l)):∃ l,upd H d o' fx=some (.lst l):=by
 obtain⟨l,h1⟩:=h;exact⟨l,gD hd _ _ h1 rfl⟩
theorem unit_D {d:Addr}{o':HO}{m:Man}{a:Addr}(hd:∃ o,H d=some o/\isD o=true)(h:UnitAt K ad H m a):UnitAt K ad (upd H d o') m a:=by
 obtain⟨dx,o,g1,g2⟩:=h;refine⟨dx,o,gD hd _ _ g1 rfl,?_⟩
 rcases g2 with (g2 | ⟨ob,g2⟩) | g2
 ·exact .inl (.inl (gD hd _ _ g2 rfl))
 ·exact .inl (.inr ⟨ob,gD hd _ _ g2 rfl⟩)
 ·exact .inr g2
theorem nest_D {d sl:Addr}{o':HO}{kvs:List (List (List Key)×V)}(hd:∃ o,H d=some o/\isD o=true)(hne:sl≠d)(h:NestDict P w H sl kvs):NestDict P w (upd H d o') sl kvs :=
 h.mono (uN hne) fun b xs e=>gD hd _ _ e rfl
theorem nest_ext {sl:Addr}{kvs:List (List (List Key)×V)}(h:NestDict P w H sl kvs):∃ φ,H sl=some (.ext φ):=by
 obtain⟨_,_,xs,e,_⟩:=h;exact⟨_,e⟩
theorem tab_land {t:Table}(hT:TabAt K P w ad H tb A t)(l:List (Nat×Nat))(wf:WF {t with map:={t.map with land:=l}}) :
  TabAt K P w ad (upd H A.ll (.dT (l.map fun e=>(eY e,V.bl true)))) tb A {t with map:={t.map with land:=l}}:=by
 have hd:∃ o,H A.ll=some o/\isD o=true:=⟨_,hT.land,rfl⟩
 obtain⟨φ,hφ⟩:=nest_ext hT.sea;obtain⟨us,h6,h7,h8,h9⟩:=hT.units;refine⟨gD hd _ _ hT.obj rfl,provs_D hd hT.provs,uS,nest_D hd (bB hφ hT.land (fun e=>nomatch e)) hT.sea,⟨us,?_,h7,h8,fun u hu=>unit_D hd (h9 u hu)⟩,wf,fx_D hd hT.fx⟩
 rw [uN (bB h6 hT.land (fun e=>nomatch e))]
 exact h6
theorem tab_sea {t:Table}{o':HO}(hT:TabAt K P w ad H tb A t)(l:List (Nat×Nat))(hN:NestDict P w (upd H A.sl o') A.sl (l.map fun e=>(iR e,V.bl true)))(wf:WF {t with map:={t.map with sea:=l}}) :
  TabAt K P w ad (upd H A.sl o') tb A {t with map:={t.map with sea:=l}}:=by
 obtain⟨φ,hφ⟩:=nest_ext hT.sea;have hd:∃ o,H A.sl=some o/\isD o=true:=⟨_,hφ,rfl⟩
 obtain⟨us,h6,h7,h8,h9⟩:=hT.units;refine⟨gD hd _ _ hT.obj rfl,provs_D hd hT.provs,?_,hN,⟨us,?_,h7,h8,fun u hu=>unit_D hd (h9 u hu)⟩,wf,fx_D hd hT.fx⟩
 ·rw [uN (bB hT.land hφ (fun e=>nomatch e))]
  exact hT.land
 ·rw [uN (bB h6 hφ (fun e=>nomatch e))]
  exact h6
theorem tab_units {t:Table}{ms:Vbsoaa.Men}(hT:TabAt K P w ad H tb A t)(us:List (Man×Addr))(h7:(us.map (·.1)).Perm ms)(h8:(us.map (·.2)).Nodup)(h9:∀ u∈us,UnitAt K ad H u.1 u.2)(wf:WF {t with men:=ms}) :
  TabAt K P w ad (upd H A.un (.dK (us.map fun u=>(Sum.inl ((u.1.prov:Nat):Int),V.ref u.2)))) tb A {t with men:=ms}:=by
 obtain⟨φ,hφ⟩:=nest_ext hT.sea;obtain⟨us0,h6,_⟩:=hT.units;have hd:∃ o,H A.un=some o/\isD o=true:=⟨_,h6,rfl⟩
 refine⟨gD hd _ _ hT.obj rfl,provs_D hd hT.provs,?_,nest_D hd (bB hφ h6 (fun e=>nomatch e)) hT.sea,⟨us,uS,h7,h8,fun u hu=>unit_D hd (h9 u hu)⟩,wf,fx_D hd hT.fx⟩
 rw [uN (bB hT.land h6 (fun e=>nomatch e))]
 exact hT.land
def sp_add_land_link:SP:=fun K P w ad vs H Q _=>∃ (tb:Addr)(A:TAd)(t:Table)(p q:Int),vs=[.ref tb,.int p,.int q]/\TabAt K P w ad H tb A t/\Post K P w ad tb A H t (.land p q) Q
def sp_add_sea_link:SP:=fun K P w ad vs H Q _=>∃ (tb:Addr)(A:TAd)(t:Table)(p s q u:Int),vs=[.ref tb,.int p,.int s,.int q,.int u]/\TabAt K P w ad H tb A t/\Post K P w ad tb A H t (.sea p s q u) Q
theorem isShore_nat {t:Table}{i:Nat}{s:Int}(h:isShore t (i:Int) s=true):∃ a:Nat,s=(a:Int)/\a < shoresOf t.map i:=by
 unfold isShore Vbsoac.within at h;rw [Bool.and_eq_true,decide_eq_true_eq,decide_eq_true_eq,Int.toNat_natCast] at h;exact⟨s.toNat,by omega,by omega⟩
theorem shores4 {t:Table}(wf:WF t){i:Nat}(hi:i < aF t):shoresOf t.map i<=4:=by
 have:=(wf.prov _ (List.mem_of_getElem? (cW hi))).shores
 unfold shoresOf;omega
theorem place_ok {t:Table}{i a:Nat}(hi:i < aF t)(ha:a < shoresOf t.map i)(h4:a < 4):PlaceOk t (place i a):=by
 unfold place;refine⟨?_,?_⟩
 ·rw [show(4*i+a) / 4=i by omega]
  exact hi
 ·rw [show(4*i+a) / 4=i by omega,show(4*i+a) % 4=a by omega]
  exact ha
abbrev O_add_land_link:=DO "add_land_link" 2 ["table","p","q"] sp_add_land_link
theorem ok_add_land_link (F:Fun K "add_land_link" "add_land_link" iO f fd)(T:Txt K mg ad)(D_link_between:eU P w K mg base ad)(D_Table_has_kind:cE P w K mg base ad)(D_Table_has_province:bV P w K mg base ad):FnOk P w K mg base CX0 2 f fd ["table","p","q"] (sp_add_land_link K P w ad):=by
 refine F.ok sc_add_land_link (fun vs H Q E h=>?_) (fun _ A _ s H vs Q E hr h=>?_)
 ·obtain⟨tb,A,t,p,q,rfl,_⟩:=h;rfl
 ·obtain⟨tb,A,t,p,q,rfl,hT,post⟩:=h;have hu:=iI hr
  refine⟨_,(sC (aB (gB (PW.pt (iS (aX (aH (pv 0) T.cl_Table D_Table_has_province hr (pC (pv 1) pN))) (gZ (aX (aH (pv 0) T.cl_Table D_Table_has_province hr (pC (pv 2) pN))))))) (sO (sR (eG rfl T.g_OUT_OF_RANGE))) sN)
   (sC (aB (PW.pt (pw_or (tR aM (pv 1) (pv 2) (nMk _)) (pw_or (aX (aH (pv 0) T.cl_Table D_Table_has_kind hr (pC (pv 1) (pC (eG rfl T.g_SEA) pN)))) (pw_or1 (aX (aH (pv 0) T.cl_Table D_Table_has_kind hr (pC (pv 2) (pC (eG rfl T.g_SEA) pN)))))))) (sO (sR (eG rfl T.g_UNFIT))) sN)
   (sC (aD (i:=3) sc_add_land_link.nd rfl (Or.inl rfl) (eD D_link_between hr (pC (pv 1) (pC (pv 2) pN))))
   (sC (aB (hE (pc_din hu (pv 3) (eF (pv 0) rfl))) (sO (sR (eG rfl T.g_TAKEN))) sN)
   (sC (aB (tR aM (bI call_lenT rfl T.n_len PySem.boot_len (pC (eF (pv 0) rfl) pN)) (eG rfl T.g_MOST_LAND_LINKS) (nMk _)) (sO (sR (eG rfl T.g_FULL))) sN)
   (sC (ps_dput hu (eF (pv 0) rfl) (pv 3) pe_bl rfl)
   (sO (sR eJ)))))))),?_⟩
  walk_at "s1";refine⟨_,_,hT.obj,bF,tb,A,t,p,rfl,hT,_,rfl,?_⟩
  cases c1:isProv t p with
  | false =>
   rw [if_neg (by decide),if_pos trivial];exact post.no hT (Same.refl _) (by simp only [Vbsoac.step,c1,Bool.false_and,if_true])
  | true =>
  rw [if_pos rfl];refine⟨_,_,hT.obj,bF,tb,A,t,q,rfl,hT,_,rfl,?_⟩
  cases c2:isProv t q with
  | false =>
   rw [if_pos rfl];exact post.no hT (Same.refl _) (by simp only [Vbsoac.step,c1,c2,Bool.and_false,if_true])
  | true =>
  rw [if_neg (by decide),e1];clear e1 k1;obtain⟨i,rfl,hi⟩:=eO c1;obtain⟨j,rfl,hj⟩:=eO c2
  have step:Vbsoac.step t (.land (i:Int) (j:Int))=(if i=j\/(provAt t.map i).kind=1\/(provAt t.map j).kind=1 then(t,[-3]) else if linked t.map.land i j=true then(t,[-4]) else if 300<=t.map.land.length then(t,[-2])
    else({t with map:={t.map with land:=t.map.land++[(i,j)]}},[0])):=by
   simp only [Vbsoac.step,c1,c2,Bool.true_and,Bool.true_eq_false,if_false,Vbsoac.kindOf,Int.toNat_natCast];have e:((i:Int)=(j:Int))↔i=j:=by omega
   simp only [e];rfl
  walk_at "s2";refine⟨rfl,?_⟩
  by_cases c3:i=j
  ·rw [if_pos (by omega),if_pos trivial];exact post.no hT (Same.refl _) (by rw [step,if_pos (.inl c3)])
  rw [if_neg (by omega)];refine⟨_,_,hT.obj,aJ,tb,A,t,i,1,rfl,hT,hi,_,rfl,?_⟩
  by_cases c4:(provAt t.map i).kind=1
  ·rw [if_pos (by simpa using c4),if_pos trivial]
   exact post.no hT (Same.refl _) (by rw [step,if_pos (.inr (.inl c4))])
  rw [if_neg (by simpa using c4)]
  refine⟨_,_,hT.obj,aJ,tb,A,t,j,1,rfl,hT,hj,_,rfl,?_⟩
  by_cases c5:(provAt t.map j).kind=1
  ·rw [if_pos (by simpa using c5)]
   exact post.no hT (Same.refl _) (by rw [step,if_pos (.inr (.inr c5))])
  rw [if_neg (by simpa using c5),e2]
  clear e2 k2;rw [if_neg (by intro z;rcases z with z | z | z;exact c3 z;exact c4 z;exact c5 z)] at step
  walk_at "s3";refine .inl ⟨i,j,rfl,fun y H1 s1 hy h1=>?_⟩
  walk_at "c3";have hT1:=hT.same s1;walk_at "s4";refine⟨_,_,_,hT1.obj,T.cl_Table,T.nf_Table_land_links,_,dM,_,rfl,_,DGet.t hT1.land h1,?_⟩
  rw [land_linked];cases c6:linked t.map.land i j with
  | true =>
   rw [if_pos rfl];exact post.no hT s1 (by rw [step,if_pos c6])
  | false =>
  rw [if_neg (by decide),e4];clear e4 k4;rw [if_neg (by rw [c6];decide)] at step
  walk_at "s5";refine⟨_,_,_,hT1.obj,T.cl_Table,T.nf_Table_land_links,_,dM,_,rfl,_,hT1.land,rfl,?_⟩
  rw [List.length_map];have few:=hT.wf.land;by_cases c7:t.map.land.length=300
  ·rw [if_pos (by rw [c7];rfl)]
   exact post.no hT s1 (by rw [step,if_pos (by omega)])
  rw [if_neg (by omega),e5];clear e5 k5;rw [if_neg (by omega)] at step;have wf':=wf_land hT.wf hi hj c4 c5 (by omega);walk_at "rd"
  have nov:cF (t.map.land.map fun e=>(eY e,V.bl true)) (eY (i,j))=none:=by
   have:=land_linked t.map.land i j
   rw [c6] at this;cases z:cF (t.map.land.map fun e=>(eY e,V.bl true)) (eY (i,j)) with
   | none=>rfl
   | some v=>rw [z] at this;cases this
  refine⟨_,_,_,hT1.obj,T.cl_Table,T.nf_Table_land_links,_,dM,_,rfl,_,DPut.t hT1.land h1 (by rw [List.length_map];exact Nat.lt_of_le_of_lt few (by decide)),?_⟩
  rw [putK_new _ nov];have hTn:=tab_land hT1 (t.map.land++[(i,j)]) wf';rw [List.map_append] at hTn;refine post A _ 0 (by rw [step];exact hTn) (.inl rfl) ((Same.keepF s1 _).trans (keepF_D ⟨_,hT1.land,rfl⟩)) (by rw [step])
abbrev O_add_sea_link:=DO "add_sea_link" 3 ["table","p","s","q","t"] sp_add_sea_link
theorem ok_add_sea_link (F:Fun K "add_sea_link" "add_sea_link" jN f fd)(T:Txt K mg ad)(D_link_between:eU P w K mg base ad)(D_Table_has_kind:cE P w K mg base ad)(D_Table_has_shore:iA P w K mg base ad):FnOk P w K mg base CX0 3 f fd ["table","p","s","q","t"] (sp_add_sea_link K P w ad):=by
 refine F.ok sc_add_sea_link (fun vs H Q E h=>?_) (fun _ A _ s H vs Q E hr h=>?_)
 ·obtain⟨tb,A,t,p,s,q,u,rfl,_⟩:=h;rfl
 ·obtain⟨tb,A,t,p,s,q,u,rfl,hT,post⟩:=h;have hu64:=hr.units
  refine⟨_,(sC (aB (gB (PW.pt (iS (aX (aH (pv 0) T.cl_Table D_Table_has_shore hr (pC (pv 1) (pC (pv 2) pN)))) (gZ (aX (aH (pv 0) T.cl_Table D_Table_has_shore hr (pC (pv 3) (pC (pv 4) pN)))))))) (sO (sR (eG rfl T.g_OUT_OF_RANGE))) sN)
   (sC (aB (PW.pt (pw_or (tR aM (pv 1) (pv 3) (nMk _)) (pw_or (aX (aH (pv 0) T.cl_Table D_Table_has_kind hr (pC (pv 1) (pC (eG rfl T.g_LAND) pN)))) (pw_or1 (aX (aH (pv 0) T.cl_Table D_Table_has_kind hr (pC (pv 3) (pC (eG rfl T.g_LAND) pN)))))))) (sO (sR (eG rfl T.g_UNFIT))) sN)
   (sC (aD (i:=5) sc_add_sea_link.nd rfl (Or.inl rfl) (eD D_link_between hr (pC (eM (pC (pv 1) (pC (pv 2) pN))) (pC (eM (pC (pv 3) (pC (pv 4) pN))) pN))))
   (sC (aB (tR (op_inN hu64) (pv 5) (eF (pv 0) rfl) (by with_unfolding_all rfl)) (sO (sR (eG rfl T.g_TAKEN))) sN)
   (sC (aB (tR aM (bI call_lenN rfl T.n_len PySem.boot_len (pC (eF (pv 0) rfl) pN)) (eG rfl T.g_MOST_SEA_LINKS) (nMk _)) (sO (sR (eG rfl T.g_FULL))) sN)
   (sC (ps_asg pe_bl (pg_sub (eF (pv 0) rfl) (pv 5) (set_N hu64)))
   (sO (sR eJ)))))))),?_⟩
  walk_at "s1";refine⟨_,_,hT.obj,eQ,tb,A,t,p,s,rfl,hT,_,rfl,?_⟩
  cases c1:(isProv t p&&isShore t p s) with
  | false =>
   rw [if_neg (by decide),if_pos trivial];refine post.no hT (Same.refl _) ?_
   have e:(isProv t p&&(isProv t q&&(isShore t p s&&isShore t q u)))=false:=by
    cases z:isProv t p with
    | false=>rfl
    | true =>
     rw [z,Bool.true_and] at c1;rw [c1,Bool.false_and,Bool.and_false,Bool.and_false]
   simp only [Vbsoac.step,e,if_true]
  | true =>
  rw [if_pos rfl];refine⟨_,_,hT.obj,eQ,tb,A,t,q,u,rfl,hT,_,rfl,?_⟩
  rw [Bool.and_eq_true] at c1;cases c2:(isProv t q&&isShore t q u) with
  | false =>
   rw [if_pos rfl];refine post.no hT (Same.refl _) ?_
   have e:(isProv t p&&(isProv t q&&(isShore t p s&&isShore t q u)))=false:=by
    rw [c1.1,c1.2,Bool.true_and,Bool.true_and];exact c2
   simp only [Vbsoac.step,e,if_true]
  | true =>
  rw [if_neg (by decide),e1];clear e1 k1;rw [Bool.and_eq_true] at c2;obtain⟨i,rfl,hi⟩:=eO c1.1;obtain⟨j,rfl,hj⟩:=eO c2.1;obtain⟨a,rfl,ha⟩:=isShore_nat c1.2;obtain⟨b,rfl,hb⟩:=isShore_nat c2.2;have a4:a < 4:=Nat.lt_of_lt_of_le ha (shores4 hT.wf hi)
  have b4:b < 4:=Nat.lt_of_lt_of_le hb (shores4 hT.wf hj)
  have step:Vbsoac.step t (.sea (i:Int) (a:Int) (j:Int) (b:Int))=(if i=j\/(provAt t.map i).kind=0\/(provAt t.map j).kind=0 then(t,[-3]) else if linked t.map.sea (place i a) (place j b)=true then(t,[-4]) else if 300<=t.map.sea.length then(t,[-2])
    else({t with map:={t.map with sea:=t.map.sea++[(place i a,place j b)]}},[0])):=by
   simp only [Vbsoac.step,c1.1,c1.2,c2.1,c2.2,Bool.true_and,Bool.true_eq_false,if_false,Vbsoac.kindOf,Int.toNat_natCast];have e:((i:Int)=(j:Int))↔i=j:=by omega
   simp only [e];rfl
  walk_at "s2";refine⟨rfl,?_⟩
  by_cases c3:i=j
  ·rw [if_pos (by omega),if_pos trivial];exact post.no hT (Same.refl _) (by rw [step,if_pos (.inl c3)])
  rw [if_neg (by omega)];refine⟨_,_,hT.obj,aJ,tb,A,t,i,0,rfl,hT,hi,_,rfl,?_⟩
  by_cases c4:(provAt t.map i).kind=0
  ·rw [if_pos (by simpa using c4),if_pos trivial]
   exact post.no hT (Same.refl _) (by rw [step,if_pos (.inr (.inl c4))])
  rw [if_neg (by simpa using c4)]
  refine⟨_,_,hT.obj,aJ,tb,A,t,j,0,rfl,hT,hj,_,rfl,?_⟩
  by_cases c5:(provAt t.map j).kind=0
  ·rw [if_pos (by simpa using c5)]
   exact post.no hT (Same.refl _) (by rw [step,if_pos (.inr (.inr c5))])
  rw [if_neg (by simpa using c5),e2]
  clear e2 k2;rw [if_neg (by intro z;rcases z with z | z | z;exact c3 z;exact c4 z;exact c5 z)] at step
  walk_at "s3";refine⟨by decide,fun y1 n1=>⟨by decide,fun y2 n2=>?_⟩⟩
  have s1:Same H (upd (upd H y1 (.tup [.int (i:Int),.int (a:Int)])) y2 (.tup [.int (j:Int),.int (b:Int)])):=(Same.new n1).trans (Same.new n2)
  refine .inr ⟨y1,y2,place i a,place j b,rfl,?_,?_,fun y H1 s2 hy h1=>?_⟩
  ·show upd _ y2 _ y1=_
   rw [uN (fun e=>by rw [<-e,uS] at n2;cases n2),uS,gE a4]
  ·show upd _ y2 _ y2=_
   rw [uS,gE b4]
  walk_at "c3";replace s2:Same H H1:=s1.trans s2
  have hT1:=hT.same s2;walk_at "s4";refine⟨_,_,_,hT1.obj,T.cl_Table,T.nf_Table_sea_links,_,eC,y,_,_,_,rfl,rfl,h1,hT1.sea,_,rfl,?_⟩
  have lk:=sea_linked t.map.sea (place i a) (place j b);rw [if_neg (show ¬ false=true by decide),lk]
  cases c6:linked t.map.sea (place i a) (place j b) with
  | true =>
   rw [if_pos rfl];exact post.no hT s2 (by rw [step,if_pos c6])
  | false =>
  rw [if_neg (by decide),e4];clear e4 k4;rw [if_neg (by rw [c6];decide)] at step
  walk_at "s5";refine⟨_,_,_,hT1.obj,T.cl_Table,T.nf_Table_sea_links,_,eC,_,rfl,_,hT1.sea,rfl,?_⟩
  rw [List.length_map];have few:=hT.wf.sea;by_cases c7:t.map.sea.length=300
  ·rw [if_pos (by rw [c7];rfl)]
   exact post.no hT s2 (by rw [step,if_pos (by omega)])
  rw [if_neg (by omega),e5];clear e5 k5;rw [if_neg (by omega)] at step;have wf':=wf_sea hT.wf (x:=place i a) (y:=place j b) (place_ok hi ha a4) (place_ok hj hb b4) (by omega)
  walk_at "rd"
  have nov:cF (t.map.sea.map fun e=>(iR e,V.bl true)) (iR (place i a,place j b))=none:=by
   rw [c6] at lk;cases z:cF (t.map.sea.map fun e=>(iR e,V.bl true)) (iR (place i a,place j b)) with
   | none=>rfl
   | some v=>rw [z] at lk;cases lk
  refine⟨_,rfl,_,_,_,_,_,rfl,hT1.obj,T.cl_Table,T.nf_Table_sea_links,eC,_,rfl,_,rfl,_,rfl,_,h1,_,hT1.sea,by rw [List.length_map];exact Nat.lt_of_le_of_lt few (by decide),nov,fun o' hN=>?_⟩
  rw [putK_new _ nov] at hN;have hTn:=tab_sea hT1 (t.map.sea++[(place i a,place j b)]) (by rw [List.map_append];exact hN) wf'
  obtain⟨φ,hφ⟩:=nest_ext hT1.sea;exact post A _ 0 (by rw [step];exact hTn) (.inl rfl) ((Same.keepF s2 _).trans (keepF_D ⟨_,hφ,rfl⟩)) (by rw [step])
def uKV (us:List (Man×Addr)):List (Key×V):=us.map fun u=>(Sum.inl ((u.1.prov:Nat):Int),V.ref u.2)
theorem uKV_none:∀ {us:List (Man×Addr)}{p:Nat},(∀ u∈us,u.1.prov≠p)->cF (uKV us) (Sum.inl (p:Int))=none
 | [],_,_=>rfl
 | u::us,p,h=>by
  show cF ((Sum.inl ((u.1.prov:Nat):Int),V.ref u.2)::uKV us) _=_
  rw [gN (fun e=>h u List.mem_cons_self (by have:=Sum.inl.inj e;omega)),uKV_none fun v hv=>h v (List.mem_cons_of_mem _ hv)]
theorem uKV_some:∀ {us:List (Man×Addr)}{p:Nat},(∃ u∈us,u.1.prov=p)->∃ u∈us,u.1.prov=p/\cF (uKV us) (Sum.inl (p:Int))=some (.ref u.2)
 | [],p,⟨u,hu,_⟩=>nomatch hu
 | u::us,p,h=>by
  by_cases c:u.1.prov=p
  ·refine⟨u,List.mem_cons_self,c,?_⟩
   show cF ((Sum.inl ((u.1.prov:Nat):Int),V.ref u.2)::uKV us) _=_
   rw [iW (by rw [c])]
  ·obtain⟨v,hv,e⟩:=h;rcases List.mem_cons.mp hv with rfl | hv
   ·exact absurd e c
   ·obtain⟨x,h1,h2,h3⟩:=uKV_some (us:=us) (p:=p) ⟨v,hv,e⟩
    refine⟨x,List.mem_cons_of_mem _ h1,h2,?_⟩
    show cF ((Sum.inl ((u.1.prov:Nat):Int),V.ref u.2)::uKV us) _=_
    rw [gN (fun e=>c (by have:=Sum.inl.inj e;omega)),h3]
theorem unit_get {t:Table}(hT:TabAt K P w ad H tb A t)(p:Nat) :
  ∃ kvs,H A.un=some (.dK kvs)/\kvs.length=t.men.length/\((manAt t.men p=none/\cF kvs (Sum.inl (p:Int))=none)\/∃ m a,manAt t.men p=some m/\m.prov=p/\m∈t.men/\cF kvs (Sum.inl (p:Int))=some (.ref a)/\UnitAt K ad H m a):=by
 obtain⟨us,h1,h2,h3,h4⟩:=hT.units;refine⟨_,h1,by rw [List.length_map,<-h2.length_eq,List.length_map],?_⟩
 by_cases c:∃ u∈us,u.1.prov=p
 ·obtain⟨u,hu,e,hv⟩:=uKV_some c;have hm:u.1∈t.men:=h2.subset (List.mem_map.mpr ⟨u,hu,rfl⟩)
  refine .inr ⟨u.1,u.2,?_,e,hm,hv,h4 u hu⟩
  rw [<-e];exact hW hT.wf.sorted hm
 ·refine .inl ⟨manAt_none.mpr fun m hm e=>?_,uKV_none fun u hu e=>c ⟨u,hu,e⟩⟩
  obtain⟨u,hu,rfl⟩:=List.mem_map.mp (h2.symm.subset hm);exact c ⟨u,hu,e⟩
def cannot (t:Table) (f:Int)(p:Nat) (s:Int):Prop:=(f=0/\((provAt t.map p).kind=1\/s≠0))\/(f=1/\(provAt t.map p).kind=0)
instance {t:Table}{f:Int}{p:Nat}{s:Int}:Decidable (cannot t f p s):=by unfold cannot;infer_instance
def sp_can_stand:SP:=fun K P w ad vs H Q _=>∃ (tb:Addr)(A:TAd)(t:Table)(f s:Int)(p:Nat),vs=[.ref tb,.int f,.int p,.int s]/\TabAt K P w ad H tb A t/\(f=0\/f=1)/\p < aF t/\Q (.bl (!decide (cannot t f p s))) H
def sp_add_unit:SP:=fun K P w ad vs H Q _=>∃ (tb:Addr)(A:TAd)(t:Table)(pw f p s:Int),vs=[.ref tb,.int pw,.int f,.int p,.int s]/\TabAt K P w ad H tb A t/\Post K P w ad tb A H t (.man pw f p s) Q
def sp_remove_unit:SP:=fun K P w ad vs H Q _=>∃ (tb:Addr)(A:TAd)(t:Table) (p:Int),vs=[.ref tb,.int p]/\TabAt K P w ad H tb A t/\Post K P w ad tb A H t (.gone p) Q
abbrev O_can_stand:=DO "can_stand" 2 ["table","fleet","p","s"] sp_can_stand
theorem ok_can_stand (F:Fun K "can_stand" "can_stand" st_can_stand f fd)(T:Txt K mg ad)(D_Table_has_kind:cE P w K mg base ad):FnOk P w K mg base CX0 2 f fd ["table","fleet","p","s"] (sp_can_stand K P w ad):=by
 refine F.ok sc_can_stand (fun vs H Q E h=>?_) (fun _ A _ s H vs Q E hr h=>?_)
 ·obtain⟨tb,A,t,f,s,p,rfl,_⟩:=h;rfl
 ·obtain⟨tb,A,t,f',s',p,rfl,hT,hf,hp,k⟩:=h
  refine⟨_,(sC (aB (tR aM (pv 1) (eG rfl T.g_FLEET) (nMk _)) (sO (sR (pe_not (aH (pv 0) T.cl_Table D_Table_has_kind hr (pC (pv 2) (pC (eG rfl T.g_LAND) pN)))))) sN)
   (sO (sR (pe_and (pe_not (aH (pv 0) T.cl_Table D_Table_has_kind hr (pC (pv 2) (pC (eG rfl T.g_SEA) pN)))) (jO (eB aM (pv 3) eJ (nMk _))))))),?_⟩
  walk_at "rd";refine⟨rfl,?_⟩
  rcases hf with rfl | rfl
  ·rw [if_neg (by decide)];refine⟨_,_,hT.obj,aJ,tb,A,t,p,1,rfl,hT,hp,_,rfl,?_⟩
   have e:(!decide (cannot t 0 p s'))=(!decide ((provAt t.map p).kind=1)&&decide (s'=0)):=by
    refine Bool.eq_iff_iff.mpr ?_
    rw [Bool.not_eq_true',decide_eq_false_iff_not,Bool.and_eq_true,Bool.not_eq_true',decide_eq_false_iff_not,decide_eq_true_eq];unfold cannot;omega
   rw [e] at k;by_cases c:(provAt t.map p).kind=1
   ·rw [if_neg (by simpa using c)]
    rw [decide_eq_true c] at k;exact k
   ·rw [if_pos (by simpa using c)]
    rw [decide_eq_false c] at k;refine⟨rfl,?_⟩
    exact k
  ·rw [if_pos rfl];refine⟨_,_,hT.obj,aJ,tb,A,t,p,0,rfl,hT,hp,_,rfl,?_⟩
   have e:(!decide (cannot t 1 p s'))=(!decide ((provAt t.map p).kind=0)):=by
    refine Bool.eq_iff_iff.mpr ?_
    rw [Bool.not_eq_true',decide_eq_false_iff_not,Bool.not_eq_true',decide_eq_false_iff_not];unfold cannot;omega
   rw [e] at k;exact k
abbrev O_add_unit:=DO "add_unit" 3 ["table","power","fleet","p","s"] sp_add_unit
theorem ok_add_unit (F:Fun K "add_unit" "add_unit" st_add_unit f fd)(T:Txt K mg ad)(D_Unit:O_Unit P w K mg base ad)(D_can_stand:O_can_stand P w K mg base ad)(D_Table_has_shore:iA P w K mg base ad)(D_is_power:O_is_power P w K mg base ad):FnOk P w K mg base CX0 3 f fd ["table","power","fleet","p","s"] (sp_add_unit K P w ad):=by
 refine F.ok sc_add_unit (fun vs H Q E h=>?_) (fun _ A _ s H vs Q E hr h=>?_)
 ·obtain⟨tb,A,t,pw,f,p,s,rfl,_⟩:=h;rfl
 ·obtain⟨tb,A,t,pw,f',p,s',rfl,hT,post⟩:=h;have hu:=iI hr
  refine⟨_,(sC (aB (gB (PW.pt (iS (aX (eD D_is_power hr (pC (pv 1) pN))) (iS (tR op_in_seq (pv 2) (eM (pC (eG rfl T.g_ARMY) (pC (eG rfl T.g_FLEET) pN))) (by with_unfolding_all rfl)) (gZ (aX (aH (pv 0) T.cl_Table D_Table_has_shore hr (pC (pv 3) (pC (pv 4) pN))))))))) (sO (sR (eG rfl T.g_OUT_OF_RANGE))) sN)
   (sC (aB (gB (aX (eD D_can_stand hr (pC (pv 0) (pC (pv 2) (pC (pv 3) (pC (pv 4) pN))))))) (sO (sR (eG rfl T.g_UNFIT))) sN)
   (sC (aB (hE (pc_din hu (pv 3) (eF (pv 0) rfl))) (sO (sR (eG rfl T.g_TAKEN))) sN)
   (sC (aB (tR aM (bI call_lenD rfl T.n_len PySem.boot_len (pC (eF (pv 0) rfl) pN)) (eG rfl T.g_MOST_UNITS) (nMk _)) (sO (sR (eG rfl T.g_FULL))) sN)
   (sC (ps_dput hu (eF (pv 0) rfl) (pv 3) (dO D_Unit hr (pC (pv 1) (pC (pv 2) (pC (pv 4) pN)))) rfl)
   (sO (sR eJ))))))),?_⟩
  walk_at "s1";refine⟨pw,rfl,_,rfl,?_⟩
  cases c1:isPower pw with
  | false =>
   rw [if_neg (by decide),if_pos trivial];exact post.no hT (Same.refl _) (by simp only [Vbsoac.step,c1,Bool.false_and,if_true])
  | true =>
  rw [if_pos rfl];refine⟨by decide,fun y1 n1=>⟨y1,_,rfl,.inr (SqT.of uS),rfl,rfl,_,rfl,?_⟩⟩
  have s1:Same H (upd H y1 (.tup [V.int 0,V.int 1])):=Same.new n1
  generalize hH1:upd H y1 (.tup [V.int 0,V.int 1])=H1 at s1 ⊢;have hT1:=hT.same s1
  have ein:inV (.int f') [V.int 0,V.int 1]=Vbsoac.within f' 0 1:=by
   unfold inV Vbsoac.within;refine Bool.eq_iff_iff.mpr ?_
   simp only [List.any_cons,List.any_nil,eqV,Bool.or_false,Bool.or_eq_true,beq_iff_eq,Bool.and_eq_true,decide_eq_true_eq];omega
  rw [if_neg (show ¬ false=true by decide),ein]
  cases c2:Vbsoac.within f' 0 1 with
  | false =>
   rw [if_neg (by decide),if_pos trivial];exact post.no hT s1 (by simp only [Vbsoac.step,c1,c2,Bool.false_and,Bool.and_false,if_true])
  | true =>
  rw [if_pos rfl];refine⟨_,_,hT1.obj,eQ,tb,A,t,p,s',rfl,hT1,_,rfl,?_⟩
  cases c3:(isProv t p&&isShore t p s') with
  | false =>
   rw [if_pos rfl];exact post.no hT s1 (by simp only [Vbsoac.step,c1,c2,c3,Bool.true_and,if_true])
  | true =>
  rw [if_neg (by decide),e1];clear e1 k1;rw [Bool.and_eq_true] at c3;obtain⟨i,rfl,hi⟩:=eO c3.1;obtain⟨a,rfl,ha⟩:=isShore_nat c3.2
  have hf:f'=0\/f'=1:=by
   unfold Vbsoac.within at c2;rw [Bool.and_eq_true,decide_eq_true_eq,decide_eq_true_eq] at c2;omega
  have hpw:((pw.toNat:Nat):Int)=pw:=by
   unfold isPower Vbsoac.within at c1;rw [Bool.and_eq_true,decide_eq_true_eq,decide_eq_true_eq] at c1;omega
  have step:Vbsoac.step t (.man pw f' (i:Int) (a:Int))=(if cannot t f' i (a:Int) then(t,[-3]) else if (manAt t.men i).isSome=true then(t,[-4]) else if 24<=t.men.length then(t,[-2])
    else({t with men:=Vbsoac.putMan {power:=pw.toNat,fleet:=f'==1,prov:=i,shore:=a} t.men},[0])):=by
   simp only [Vbsoac.step,c1,c2,c3.1,c3.2,Bool.true_and,Bool.true_eq_false,if_false,Vbsoac.kindOf,Vbsoac.isMan,Int.toNat_natCast];rfl
  walk_at "s2";refine⟨tb,A,t,f',(a:Int),i,rfl,hT1,hf,hi,_,rfl,?_⟩
  by_cases c4:cannot t f' i (a:Int)
  ·rw [if_pos (by simpa using c4)]
   exact post.no hT s1 (by rw [step,if_pos c4])
  rw [if_neg (by simpa using c4),e2]
  clear e2 k2;rw [if_neg c4] at step;obtain⟨us,h1,h2,h3,h4⟩:=hT1.units;walk_at "s3";refine⟨_,_,_,hT1.obj,T.cl_Table,T.nf_Table_units,_,aE,_,rfl,_,DGet.k (k:=Sum.inl (i:Int)) h1,?_⟩
  by_cases c5:∃ u∈us,u.1.prov=i
  ·obtain⟨u,hu',e,hv⟩:=uKV_some c5;have hv':cF (us.map fun u=>(Sum.inl ((u.1.prov:Nat):Int),V.ref u.2)) (Sum.inl (i:Int))=some (V.ref u.2):=hv
   rw [hv',Option.isSome_some,if_pos rfl]
   have hm:manAt t.men i=some u.1:=by
    rw [<-e];exact hW hT.wf.sorted (h2.subset (List.mem_map.mpr ⟨u,hu',rfl⟩))
   exact post.no hT s1 (by rw [step,hm,Option.isSome_some,if_pos rfl])
  have hno:∀ u∈us,u.1.prov≠i:=fun u hu' e=>c5 ⟨u,hu',e⟩
  have hnov:cF (us.map fun u=>(Sum.inl ((u.1.prov:Nat):Int),V.ref u.2)) (Sum.inl (i:Int))=none:=uKV_none hno
  have hnm:∀ m∈t.men,m.prov≠i:=fun m hm e=>by
   obtain⟨u,hu',rfl⟩:=List.mem_map.mp (h2.symm.subset hm);exact hno u hu' e
  rw [hnov,if_neg (by decide),e3];clear e3 k3;rw [manAt_none.mpr hnm,if_neg (by decide)] at step;walk_at "s4";refine⟨_,_,_,hT1.obj,T.cl_Table,T.nf_Table_units,_,aE,_,rfl,_,h1,rfl,?_⟩
  have hlen:us.length=t.men.length:=by rw [<-h2.length_eq,List.length_map]
  rw [List.length_map,hlen];have few:=hT.wf.men;by_cases c6:t.men.length=24
  ·rw [if_pos (by rw [c6];rfl)]
   exact post.no hT s1 (by rw [step,if_pos (by omega)])
  rw [if_neg (by omega),e4];clear e4 k4;rw [if_neg (by omega)] at step;walk_at "rd";refine fun x dx nx ndx hdx=>⟨x,dx,_,_,_,rfl,uS,rfl,?_⟩
  rw [cB];have sm:Same H1 (upd (upd H1 dx (.own x)) x (.ins ad.cUnit dx (aZ (.int pw) (.int f') (.int (a:Int)) (.ref ad.a_HOLD)))):=(Same.new ndx).upd nx
  have hx:upd (upd H1 dx (.own x)) x (.ins ad.cUnit dx (aZ (.int pw) (.int f') (.int (a:Int)) (.ref ad.a_HOLD))) x=some (.ins ad.cUnit dx (aZ (.int pw) (.int f') (.int (a:Int)) (.ref ad.a_HOLD))):=uS
  generalize hHm:upd (upd H1 dx (.own x)) x (.ins ad.cUnit dx (aZ (.int pw) (.int f') (.int (a:Int)) (.ref ad.a_HOLD)))=Hm at sm hx ⊢;have hTm:=hT1.same sm;have h1m:=sm _ _ h1;refine⟨_,_,_,hTm.obj,T.cl_Table,T.nf_Table_units,_,aE,_,rfl,_,DPut.k (k:=Sum.inl (i:Int)) h1m (by rw [List.length_map,hlen];exact Nat.lt_of_le_of_lt few (by decide)),?_⟩
  rw [putK_new _ hnov]
  have efl:((bit (f'==1):Nat):Int)=f':=by
   rcases hf with rfl | rfl <;> rfl
  have hua:UnitAt K ad Hm {power:=pw.toNat,fleet:=f'==1,prov:=i,shore:=a} x:=by
   refine⟨dx,ad.a_HOLD,?_,T.t_HOLD Hm⟩
   rw [hx];show some (HO.ins ad.cUnit dx (aZ (.int pw) (.int f') (.int (a:Int)) _))=some (HO.ins ad.cUnit dx (aZ (.int ((pw.toNat:Nat):Int)) (.int ((bit (f'==1):Nat):Int)) (.int (a:Int)) _))
   rw [hpw,efl]
  have hmo:ManOk t {power:=pw.toNat,fleet:=f'==1,prov:=i,shore:=a}:=by
   refine⟨hi,ha,fun z=>?_,trivial⟩
   have z0:f'=0:=by
    rcases hf with e | e
    ·exact e
    ·rw [e] at z;cases z
   unfold cannot at c4;refine⟨?_,?_⟩
   ·show a=0
    omega
   ·show(provAt t.map i).kind≠1
    omega
  have wf':WF {t with men:=Vbsoac.putMan {power:=pw.toNat,fleet:=f'==1,prov:=i,shore:=a} t.men}:=by
   refine wf_men hT.wf ?_ (putMan_sorted _ hT.wf.sorted hnm) fun m hm=>?_
   ·rw [length_putMan];omega
   ·rcases mem_putMan.mp hm with rfl | hm
    ·exact hmo
    ·exact hT.wf.man m hm
  have hTn:=tab_units hTm (us++[({power:=pw.toNat,fleet:=f'==1,prov:=i,shore:=a},x)]) (ms:=Vbsoac.putMan {power:=pw.toNat,fleet:=f'==1,prov:=i,shore:=a} t.men) (by
    rw [List.map_append];refine List.Perm.trans ?_ (putMan_perm _ _).symm
    refine List.Perm.trans List.perm_append_comm ?_
    exact List.Perm.cons _ h2) (by
    rw [List.map_append];refine List.nodup_append.mpr ⟨h3,by simp,fun z hz y hy=>?_⟩
    obtain⟨u,hu',rfl⟩:=List.mem_map.mp hz;have e:y=x:=by simpa using hy
    obtain⟨dx',o',g1,_⟩:=h4 u hu';rw [e];exact nN g1 nx) (fun u hu'=>by
    rcases List.mem_append.mp hu' with hu' | hu'
    ·exact(h4 u hu').mono (Same.keepT sm)
    ·rw [List.mem_singleton.mp hu']
     exact hua) wf'
  rw [List.map_append] at hTn;exact post A _ 0 (by rw [step];exact hTn) (.inl rfl) ((Same.keepF (s1.trans sm) _).trans (keepF_D ⟨_,h1m,rfl⟩)) (by rw [step])
abbrev O_remove_unit:=DO "remove_unit" 2 ["table","p"] sp_remove_unit
theorem ok_remove_unit (F:Fun K "remove_unit" "remove_unit" kJ f fd)(T:Txt K mg ad)(D_Table_has_province:bV P w K mg base ad):FnOk P w K mg base CX0 2 f fd ["table","p"] (sp_remove_unit K P w ad):=by
 refine F.ok sc_remove_unit (fun vs H Q E h=>?_) (fun _ A _ s H vs Q E hr h=>?_)
 ·obtain⟨tb,A,t,p,rfl,_⟩:=h;rfl
 ·obtain⟨tb,A,t,p,rfl,hT,post⟩:=h;have hu:=iI hr
  refine⟨_,(sC (aB (gB (aX (aH (pv 0) T.cl_Table D_Table_has_province hr (pC (pv 1) pN)))) (sO (sR (eG rfl T.g_OUT_OF_RANGE))) sN)
   (sC (aB (hE (pc_dnotin hu (pv 1) (eF (pv 0) rfl))) (sO (sR (eG rfl T.g_MISSING))) sN)
   (sC (bZ (pe_dpop1 (eF (pv 0) rfl) (pv 1) ⟨rfl,rfl,rfl,rfl⟩))
   (sO (sR eJ))))),?_⟩
  walk_at "s1";refine⟨_,_,hT.obj,bF,tb,A,t,p,rfl,hT,_,rfl,?_⟩
  cases c1:isProv t p with
  | false =>
   rw [if_pos rfl];exact post.no hT (Same.refl _) (by simp only [Vbsoac.step,c1,if_true])
  | true =>
  rw [if_neg (by decide),e1];clear e1 k1;obtain⟨i,rfl,hi⟩:=eO c1
  have step:Vbsoac.step t (.gone (i:Int))=(if (manAt t.men i).isSome=false then(t,[-5]) else({t with men:=t.men.filter fun m=>m.prov != i},[0])):=by
   simp only [Vbsoac.step,c1,Bool.true_eq_false,if_false,Vbsoac.isMan,Int.toNat_natCast];rfl
  obtain⟨us,h1,h2,h3,h4⟩:=hT.units;walk_at "s2";refine⟨_,_,_,hT.obj,T.cl_Table,T.nf_Table_units,_,aE,_,rfl,_,DGet.k (k:=Sum.inl (i:Int)) h1,?_⟩
  by_cases c5:∃ u∈us,u.1.prov=i
  ·obtain⟨u,hu',e,hv⟩:=uKV_some c5;have hv':cF (us.map fun u=>(Sum.inl ((u.1.prov:Nat):Int),V.ref u.2)) (Sum.inl (i:Int))=some (V.ref u.2):=hv
   have hm:manAt t.men i=some u.1:=by
    rw [<-e];exact hW hT.wf.sorted (h2.subset (List.mem_map.mpr ⟨u,hu',rfl⟩))
   rw [hm,Option.isSome_some,if_neg (by decide)] at step;rw [hv',Option.isSome_some,if_neg (by decide),e2];clear e2 k2;walk_at "rd";refine⟨_,_,_,hT.obj,T.cl_Table,T.nf_Table_units,_,aE,_,rfl,.inl ⟨_,.inl h1⟩,_,h1,_,rfl,_,hv',?_⟩
   have ed:dropK (uKV us) (Sum.inl (i:Int))=uKV (us.filter fun u=>u.1.prov != i):=by
    unfold dropK uKV;rw [List.filter_map];congr 1
    refine List.filter_congr fun u _=>?_
    simp only [Function.comp];refine Bool.eq_iff_iff.mpr ?_
    rw [decide_eq_true_eq,bne_iff_ne];refine not_congr ⟨fun e=>by have:=Sum.inl.inj e;omega,fun e=>by rw [e]⟩
   rw [show dropK (us.map fun u=>(Sum.inl ((u.1.prov:Nat):Int),V.ref u.2)) (Sum.inl (i:Int):Key)=uKV (us.filter fun u=>u.1.prov != i) from ed]
   have wf':WF {t with men:=t.men.filter fun m=>m.prov != i}:=by
    refine wf_men hT.wf (Nat.le_trans (List.length_filter_le _ _) hT.wf.men) (rising_filter hT.wf.sorted _) fun m hm=>hT.wf.man m (List.mem_filter.mp hm).1
   have hTn:=tab_units hT (us.filter fun u=>u.1.prov != i) (ms:=t.men.filter fun m=>m.prov != i) (by
     have:=h2.filter (fun m=>m.prov != i)
     rw [List.filter_map] at this
     exact this) (h3.sublist (List.Sublist.map _ List.filter_sublist)) (fun u hu'=>h4 u (List.mem_filter.mp hu').1) wf'
   exact post A _ 0 (by rw [step];exact hTn) (.inl rfl) (keepF_D ⟨_,h1,rfl⟩) (by rw [step])
  have hno:∀ u∈us,u.1.prov≠i:=fun u hu' e=>c5 ⟨u,hu',e⟩
  have hnov:cF (us.map fun u=>(Sum.inl ((u.1.prov:Nat):Int),V.ref u.2)) (Sum.inl (i:Int))=none:=uKV_none hno
  have hnm:∀ m∈t.men,m.prov≠i:=fun m hm e=>by
   obtain⟨u,hu',rfl⟩:=List.mem_map.mp (h2.symm.subset hm);exact hno u hu' e
  rw [hnov,Option.isSome_none,if_pos rfl];exact post.no hT (Same.refl _) (by rw [step,manAt_none.mpr hnm,Option.isSome_none,if_pos rfl])
def oV:Option Nat->V
 | none=>.non
 | some k=>.int (k:Int)
def plF:Except Nat (Nat×Option Nat)->List (Str×V)
 | .error e=>bQ (.int (e:Int)) .non .non
 | .ok x=>bQ (.int 0) (.int (x.1:Int)) (oV x.2)
def GivesPl (ad:Adr)(H:Hp)(r:Except Nat (Nat×Option Nat))(Q:VK):Prop:=∀ x dx H',Same H H'->H x=none->H' x=some (.ins ad.cPlace dx (plF r))->Q (.ref x) H'
theorem GivesPl.later {H H':Hp}{r:Except Nat (Nat×Option Nat)}{Q:VK}(k:GivesPl ad H r Q)(s:Same H H'):GivesPl ad H' r Q:=fun x dx H2 s2 nx hx=>k x dx H2 (s.trans s2) (s.free nx) hx
theorem GivesPl.made {r:Except Nat (Nat×Option Nat)}{Q:VK}{a b c:V}(k:GivesPl ad H r Q)(e:plF r=bQ a b c) :
  ∀ x dx,H x=none->H dx=none->dx≠x->gY K P w ad [.ref x,a,b,c] (upd (upd H dx (.own x)) x (.ins ad.cPlace dx [])) (fun v H2=>v=.non/\Q (.ref x) H2) E0:=fun x dx nx ndx hdx=>by
 refine⟨x,dx,a,b,c,rfl,uS,rfl,?_⟩
 rw [cB];exact k x dx _ ((Same.new ndx).upd nx) nx (by rw [uS,e])
def gH (t:Table)(i:Nat)(l:Bytes):Except Nat (Nat×Option Nat):=match (provAt t.map i).shores.findIdx? fun x=>x==l with
 | none=>.error 4
 | some k=>.ok (i,some k)
def sp_no_place:SP:=fun K P w ad vs H Q _=>∃ (e:Nat),vs=[.int e]/\GivesPl ad H (.error e) Q
def sp_read_shore:SP:=fun K P w ad vs H Q _=>∃ (tb a:Addr)(A:TAd)(t:Table)(i:Nat)(l:Bytes),vs=[.ref tb,.int i,.ref a]/\TabAt K P w ad H tb A t/\i < aF t/\SqT K H a (bv l)/\GivesPl ad H (gH t i l) Q
def sp_read_place:SP:=fun K P w ad vs H Q _=>∃ (tb a:Addr)(A:TAd)(t:Table)(l:Bytes),vs=[.ref tb,.ref a]/\TabAt K P w ad H tb A t/\H a=some (.tup (bv l))/\GivesPl ad H (Vbsoac.told t.map l) Q
def bE (t:Table)(ws:List Bytes):Except Nat (Nat×Option Nat):=match ws with
 | []=>.error 1
 | w::_=>Vbsoac.told t.map w
def jS:SP:=fun K P w ad vs H Q _=>∃ (tb a:Addr)(A:TAd)(t:Table)(ws:List Bytes)(qs:List Addr),vs=[.ref tb,.ref a]/\TabAt K P w ad H tb A t/\H a=some (.lst (qs.map V.ref))/\WordsAt H ws qs/\GivesPl ad H (bE t ws) Q
theorem cutAt_no:∀ {l:Bytes},¬ 47∈l->Vbsoab.cutAt l=(l,none)
 | [],_=>rfl
 | b::r,h=>by
  have hb:b≠47:=fun e=>h (by rw [e];exact List.mem_cons_self)
  unfold Vbsoab.cutAt;rw [if_neg hb,cutAt_no fun m=>h (List.mem_cons_of_mem _ m)]
theorem cutAt_yes:∀ {l:Bytes}{j:Nat},l[j]?=some 47->(∀ m,m < j->l[m]?≠some 47)->Vbsoab.cutAt l=(l.take j,some (l.drop (j+1)))
 | [],j,h,_=>by simp at h
 | b::r,0,h,_=>by
  have e:b=47:=by simpa using h
  unfold Vbsoab.cutAt;rw [if_pos e];rfl
 | b::r,j+1,h,hn=>by
  have hb:b≠47:=fun e=>hn 0 (by omega) (by rw [e];rfl)
  have ih:=cutAt_yes (l:=r) (j:=j) (by simpa using h) fun m hm=>by simpa using hn (m+1) (by omega)
  unfold Vbsoab.cutAt;rw [if_neg hb,ih];rfl
theorem first_at {α:Type} [DecidableEq α] {l:List α}{b:α}(h:b∈l):∃ j:Nat,l[j]?=some b/\∀ m:Nat,m < j->l[m]?≠some b:=by
 induction l with
 | nil=>cases h
 | cons c r ih =>
  by_cases e:c=b
  ·exact⟨0,by rw [e];rfl,fun m hm=>absurd hm (Nat.not_lt_zero _)⟩
  ·have h':b∈r:=by
    rcases List.mem_cons.mp h with z | z
    ·exact absurd z.symm e
    ·exact z
   obtain⟨j,h1,h2⟩:=ih h';refine⟨j+1,by simpa using h1,fun m hm=>?_⟩
   cases m with
   | zero=>simpa using e
   | succ m=>simpa using h2 m (by omega)
theorem idx_first {α:Type} [BEq α] [LawfulBEq α] {l:List α}{b:α}{j:Nat}(h:l[j]?=some b)(hn:∀ m:Nat,m < j->l[m]?≠some b):l.findIdx? (fun x=>x==b)=some j:=by
 obtain⟨hj,e⟩:=List.getElem?_eq_some_iff.mp h;refine List.findIdx?_eq_some_iff_getElem.mpr ⟨hj,by rw [e];exact beq_self_eq_true b,fun m hm=>?_⟩
 have hml:m < l.length:=by omega
 intro z;exact hn m hm (by rw [List.getElem?_eq_getElem hml,eq_of_beq z])
theorem idx_none {α:Type} [BEq α] [LawfulBEq α] {l:List α}{b:α}(h:¬ b∈l):l.findIdx? (fun x=>x==b)=none:=List.findIdx?_eq_none_iff.mpr fun x hx=>beq_eq_false_iff_ne.mpr fun e=>h (by rw [<-e];exact hx)
theorem cutV_drop {l:Bytes}{n:Nat}(h:n<=l.length):kC (bv l) (some (n:Int)) none=bv (l.drop n):=by
 unfold kC;rw [HT.sIx_nat,HT.sIx_none,aG,Nat.min_eq_left h];unfold bv;rw [<-List.map_drop,List.take_of_length_le];rw [List.length_map,List.length_drop];exact Nat.le_refl _
theorem inV_bv (l:Bytes)(n:Nat):inV (.int (n:Int)) (bv l)=decide (n∈l):=by
 unfold inV bv;rw [List.any_map];refine Bool.eq_iff_iff.mpr ?_
 rw [List.any_eq_true,decide_eq_true_eq];constructor
 ·rintro ⟨x,hx,e⟩
  have e:(x:Int)=(n:Int):=by simpa [eqV] using e
  rw [show n=x by omega]
  exact hx
 ·intro h;exact⟨n,h,by simp [eqV]⟩
theorem flat_bv (l:Bytes):(bv l).all flatV=true:=by
 unfold bv;rw [List.all_map];exact List.all_eq_true.mpr fun _ _=>rfl
theorem find_lt {m:Vbsoab.Map}{l:Bytes}:∀ i∈Vbsoab.find m l,i < m.provinces.length:=fun i hi=>by
 unfold Vbsoab.find at hi;split at hi
 ·rename_i j e
  unfold exactly at e;obtain⟨hj,_⟩:=List.findIdx?_eq_some_iff_getElem.mp e;rw [List.mem_singleton.mp hi];exact hj
 ·split at hi
  ·cases hi
  ·exact List.mem_range.mp (List.mem_filter.mp hi).1
abbrev O_no_place:=DO "no_place" 3 ["error"] sp_no_place
theorem ok_no_place (F:Fun K "no_place" "no_place" st_no_place f fd)(T:Txt K mg ad)(D_Place:O_Place P w K mg base ad):FnOk P w K mg base CX0 3 f fd ["error"] (sp_no_place K P w ad):=by
 refine F.ok sc_no_place (fun vs H Q E h=>?_) (fun _ A _ s H vs Q E hr h=>?_)
 ·obtain⟨e,rfl,_⟩:=h;rfl
 ·obtain⟨e,rfl,k⟩:=h;refine⟨_,(sO (sR (dO D_Place hr (pC (pv 0) (pC pe_non (pC pe_non pN)))))),?_⟩
  walk_at "rd";exact k.made rfl
abbrev O_read_shore:=DO "read_shore" 4 ["table","p","word"] sp_read_shore
theorem ok_read_shore (F:Fun K "read_shore" "read_shore" st_read_shore f fd)(T:Txt K mg ad)(D_Place:O_Place P w K mg base ad)(D_no_place:O_no_place P w K mg base ad):FnOk P w K mg base CX0 4 f fd ["table","p","word"] (sp_read_shore K P w ad):=by
 refine F.ok sc_read_shore (fun vs H Q E h=>?_) (fun _ A _ s H vs Q E hr h=>?_)
 ·obtain⟨tb,a,A,t,i,l,rfl,_⟩:=h;rfl
 ·obtain⟨tb,a,A,t,i,l,rfl,hT,hi,hS,k⟩:=h;have hu64:=hr.units
  refine⟨_,(sC (aD (i:=3) sc_read_shore.nd rfl (Or.inl rfl) (eF (aN aP (eF (pv 0) rfl) (pv 1) (fun _ _=>rfl)) rfl))
   (sC (aB (tR (op_notinTs hu64) (pv 2) (pv 3) (by with_unfolding_all rfl)) (sO (sR (eD D_no_place hr (pC (eG rfl T.g_NO_SHORE) pN)))) sN)
   (sO (sR (dO D_Place hr (pC eJ (pC (pv 1) (pC (jA PySem.F.plainAttrs_list PySem.F.slot_list_index PySem.F.type_list_index (mt_indexTs hu64) (pv 3) (pC (pv 2) pN)) pN)))))))),?_⟩
  walk_at "rd";obtain⟨qs,q,h1,h2,h3,dx,n,s',sl,ws,g1,g2,g3,g4,g5,g6⟩:=fI hT hi;refine⟨_,_,_,hT.obj,T.cl_Table,T.nf_Table_provinces,_,aC,_,rfl,_,SqL.of h1,_,hZ h3,_,rfl,_,_,_,g1,T.cl_Province,T.nf_Province_shores,_,eE,?_⟩
  refine⟨a,sl,nI l,(provAt t.map i).shores.map nI,ws,rfl,rfl,by rw [<-iV];exact hS,SqL.of g5,g6.tups,_,rfl,?_⟩
  have emem:decide (nI l∈(provAt t.map i).shores.map nI)=decide (l∈(provAt t.map i).shores):=by
   refine decide_eq_decide.mpr ⟨fun h=>?_,fun h=>List.mem_map.mpr ⟨l,h,rfl⟩⟩
   obtain⟨y,hy,e⟩:=List.mem_map.mp h;rw [<-nI_inj e];exact hy
  rw [emem];by_cases c:l∈(provAt t.map i).shores
  ·rw [decide_eq_true c,if_neg (by decide)];obtain⟨j,hj1,hj2⟩:=first_at c
   have e:gH t i l=.ok (i,some j):=by
    unfold gH;rw [idx_first hj1 hj2]
   rw [e] at k
   have hmap:∀ m:Nat,((provAt t.map i).shores.map nI)[m]?=some (nI l)↔(provAt t.map i).shores[m]?=some l:=fun m=>by
    rw [List.getElem?_map];constructor
    ·intro h;obtain⟨y,hy,e⟩:=Option.map_eq_some_iff.mp h;rw [hy,nI_inj e]
    ·intro h;rw [h];rfl
   refine⟨tyl g5,sl,a,nI l,(provAt t.map i).shores.map nI,ws,j,rfl,rfl,by rw [<-iV];exact hS,SqL.of g5,g6.tups,(hmap j).mpr hj1,fun m hm z=>hj2 m hm ((hmap m).mp z),?_⟩
   exact k.made rfl
  ·rw [decide_eq_false c,if_pos rfl];refine⟨4,rfl,?_⟩
   have e:gH t i l=.error 4:=by
    unfold gH;rw [idx_none c]
   rw [e] at k;exact k
abbrev O_read_place:=DO "read_place" 5 ["table","word"] sp_read_place
theorem ok_read_place (F:Fun K "read_place" "read_place" st_read_place f fd)(T:Txt K mg ad)(D_Place:O_Place P w K mg base ad)(D_read_shore:O_read_shore P w K mg base ad)(D_no_place:O_no_place P w K mg base ad)(D_Table_provinces_meant:dE P w K mg base ad):FnOk P w K mg base CX0 5 f fd ["table","word"] (sp_read_place K P w ad):=by
 refine F.ok sc_read_place (fun vs H Q E h=>?_) (fun _ A _ s H vs Q E hr h=>?_)
 ·obtain⟨tb,a,A,t,l,rfl,_⟩:=h;rfl
 ·obtain⟨tb,a,A,t,l,rfl,hT,hS,k⟩:=h
  refine⟨_,(sC (aD (i:=2) sc_read_place.nd rfl (Or.inl rfl) (pe_ifExp (tR op_in_seq (eG rfl T.g_SLASH) (pv 1) (by with_unfolding_all rfl)) (pe_bmT PySem.F.slot_tuple_index PySem.F.type_tuple_index mt_indexT (pv 1) (pC (eG rfl T.g_SLASH) pN)) (aR T.n_len (pC (pv 1) pN))))
   (sC (aD (i:=3) sc_read_place.nd rfl (Or.inl rfl) (aH (pv 0) T.cl_Table D_Table_provinces_meant hr (pC (cS sl_tupA (pv 1) eX (dL (pv 2))) pN)))
   (sC (aB (tR aM (aR T.n_len (pC (pv 3) pN)) eJ (nMk _)) (sO (sR (eD D_no_place hr (pC (eG rfl T.g_NO_PROVINCE) pN)))) sN)
   (sC (aB (tR op_gt (aR T.n_len (pC (pv 3) pN)) eJ (nMk _)) (sO (sR (eD D_no_place hr (pC (eG rfl T.g_SEVERAL_PROVINCES) pN)))) sN)
   (sC (aB (tR op_lt (pv 2) (aR T.n_len (pC (pv 1) pN)) (nMk _)) (sO (sR (eD D_read_shore hr (pC (pv 0) (pC (aN aP (pv 3) eJ (fun _ _=>rfl)) (pC (cS sl_tupA (pv 1) (dL (pe_op op_add (pv 2) eJ)) eX) pN)))))) sN)
   (sO (sR (dO D_Place hr (pC eJ (pC (aN aP (pv 3) eJ (fun _ _=>rfl)) (pC pe_non pN))))))))))),?_⟩
  have hS':H a=some (.tup ((nI l).map V.int)):=by rw [hS,iV]
  obtain⟨j,hj,hcut,hend⟩:∃ j:Nat,j<=l.length/\Vbsoab.cutAt l=(l.take j,if j < l.length then some (l.drop (j+1)) else none)/\((47∈l/\(nI l)[j]?=some 47/\∀ m:Nat,m < j->(nI l)[m]?≠some 47)\/(¬ 47∈l/\j=l.length)):=by
   by_cases c:47∈l
   ·obtain⟨j,h1,h2⟩:=first_at c;have hj:=(List.getElem?_eq_some_iff.mp h1).1;refine⟨j,by omega,by rw [if_pos hj];exact cutAt_yes h1 h2,.inl ⟨c,?_,fun m hm z=>h2 m hm ?_⟩⟩
    ·unfold nI;rw [List.getElem?_map,h1];rfl
    ·unfold nI at z;rw [List.getElem?_map] at z;obtain⟨y,hy,e⟩:=Option.map_eq_some_iff.mp z;rw [hy,show y=47 by omega]
   ·exact⟨l.length,Nat.le_refl _,by rw [if_neg (Nat.lt_irrefl _),List.take_length];exact cutAt_no c,.inr ⟨c,rfl⟩⟩
  walk_at "s1";refine⟨a,_,rfl,.inr (SqT.of hS),rfl,flat_bv l,_,rfl,?_⟩
  rw [if_neg (show ¬ false=true by decide),show(V.int 47)=V.int ((47:Nat):Int) from rfl,inV_bv]
  have next:k1 [some (V.ref tb),some (V.ref a),some (V.int (j:Int)),none] H:=by
   walk_at "c1"
   have told:Vbsoac.told t.map l=(match Vbsoab.find t.map (l.take j) with
     | []=>.error 2
     | [i]=>if j < l.length then gH t i (l.drop (j+1)) else .ok (i,none)
     | _=>.error 3):=by
    unfold Vbsoac.told gH;rw [hcut];by_cases c:j < l.length
    ·simp only [c,if_true];rfl
    ·simp only [c,if_false];rfl
   walk_at "s2"
   have main:∀ (b:Addr)(H1:Hp),Same H H1->SqT K H1 b (bv (l.take j))->cV K P w ad [V.ref tb,V.ref b] H1 (fun x H1=>k2 [some (V.ref tb),some (V.ref a),some (V.int (j:Int)),some x] H1) E0:=fun b H1 s1 hb=>by
    refine⟨tb,b,A,t,l.take j,rfl,hT.same s1,hb,fun D H2 s2 nD hD=>?_⟩
    walk_at "c2";have s12:=s1.trans s2;have hT2:=hT.same s12;have k2':=k.later s12;walk_at "s3";refine⟨_,.inl (SqL.of hD),rfl,?_⟩
    rw [aG];have hlt:∀ i∈Vbsoab.find t.map (l.take j),i < aF t:=find_lt
    cases hf:Vbsoab.find t.map (l.take j) with
    | nil =>
     rw [if_pos (by rfl)]
     rw [told,hf] at k2';exact⟨2,rfl,k2'⟩
    | cons i r =>
    rw [if_neg (by simp only [List.length_cons];omega),e3]
    clear e3 k3;rw [hf] at hD hlt;walk_at "s4";refine⟨_,.inl (SqL.of hD),?_⟩
    rw [aG];cases r with
    | cons i2 r2 =>
     rw [if_pos (by simp only [List.length_cons];omega)]
     rw [told,hf] at k2';exact⟨3,rfl,k2'⟩
    | nil =>
    rw [if_neg (by simp),e4];clear e4 k4;have hi:=hlt i List.mem_cons_self;rw [told,hf] at k2';walk_at "s5";refine⟨_,.inr (SqT.of (s12 _ _ hS)),?_⟩
    rw [aG];by_cases c:j < l.length
    ·rw [if_pos (by omega)]
     have k3':GivesPl ad H2 (gH t i (l.drop (j+1))) Q:=by
      have:=k2'
      simp only [c,if_true] at this;exact this
     refine⟨_,SqL.of hD,_,aV (j:=0) rfl,?_⟩
     have e0:((j:Int)+1)=((j+1:Nat):Int):=by omega
     refine⟨a,_,rfl,SqT.of (s12 _ _ hS),fun z=>?_,fun z y hy=>?_⟩
     ·rw [aG,e0,HT.sIx_nat] at z;omega
     ·rw [e0,cutV_drop (by omega)];have s3:=Same.new (o:=.tup (bv (l.drop (j+1)))) hy
      exact⟨tb,y,A,t,i,l.drop (j+1),rfl,hT2.same s3,hi,SqT.of uS,k3'.later s3⟩
    ·rw [if_neg (by omega),e5];walk_at "rd";refine⟨_,SqL.of hD,_,aV (j:=0) rfl,?_⟩
     have k3':GivesPl ad H2 (.ok (i,none)) Q:=by
      have:=k2'
      simp only [c,if_false] at this;exact this
     exact k3'.made rfl
   refine⟨_,_,hT.obj,eP,a,_,rfl,SqT.of hS,fun z=>?_,fun z y hy=>?_⟩
   ·have ej:j=l.length:=by
     rw [aG,HT.sIx_nat] at z;omega
    refine main a H (Same.refl _) ?_
    rw [ej,List.take_length];exact SqT.of hS
   ·refine main y _ (Same.new hy) (SqT.of ?_)
    rw [uS,cutV_take]
  rcases hend with ⟨c,h1,h2⟩ | ⟨c,h1⟩
  ·rw [if_pos (decide_eq_true c)];exact⟨_,hS,a,nI l,47,j,rfl,rfl,SqT.of hS',h1,h2,next⟩
  ·rw [if_neg (by simpa using c)]
   refine⟨_,.inr (SqT.of hS),?_⟩
   rw [aG,<-h1];exact next
abbrev dN:=DO "read_first_place" 6 ["table","words"] jS
theorem ok_read_first_place (F:Fun K "read_first_place" "read_first_place" fD f fd)(T:Txt K mg ad)(D_read_place:O_read_place P w K mg base ad)(D_no_place:O_no_place P w K mg base ad):FnOk P w K mg base CX0 6 f fd ["table","words"] (jS K P w ad):=by
 refine F.ok sc_read_first_place (fun vs H Q E h=>?_) (fun _ A _ s H vs Q E hr h=>?_)
 ·obtain⟨tb,a,A,t,ws,qs,rfl,_⟩:=h;rfl
 ·obtain⟨tb,a,A,t,ws,qs,rfl,hT,h1,h2,k⟩:=h
  refine⟨_,(sC (aB (tR aM (aR T.n_len (pC (pv 1) pN)) eJ (nMk _)) (sO (sR (eD D_no_place hr (pC (eG rfl T.g_MALFORMED) pN)))) sN)
   (sO (sR (eD D_read_place hr (pC (pv 0) (pC (aN aP (pv 1) eJ (fun _ _=>rfl)) pN)))))),?_⟩
  walk_at "rd";refine⟨_,.inl (SqL.of h1),rfl,?_⟩
  cases h2 with
  | nil =>
   rw [if_pos (by rfl)]
   exact⟨1,rfl,k⟩
  | cons g r =>
   rw [if_neg (by simp only [List.map_cons,List.length_cons];omega)]
   exact⟨_,SqL.of h1,_,aV (j:=0) rfl,tb,_,A,t,_,rfl,hT,g,k⟩
def RdgAt (K:W.Frag)(ad:Adr)(H:Hp)(x:Addr):Except Nat (Nat×List Nat)->Prop
 | .error e=>∃ dx,H x=some (.ins ad.cReading dx (cQ (.int (e:Int)) .non .non))
 | .ok y=>∃ dx oa,H x=some (.ins ad.cReading dx (cQ (.int 0) (.int (y.1:Int)) (.ref oa)))/\SqT K H oa (bv y.2)
def GivesRd (K:W.Frag)(ad:Adr)(H:Hp)(r:Except Nat (Nat×List Nat))(Q:VK):Prop:=∀ x H',Same H H'->H x=none->RdgAt K ad H' x r->Q (.ref x) H'
theorem GivesRd.later {H H':Hp}{r:Except Nat (Nat×List Nat)}{Q:VK}(k:GivesRd K ad H r Q)(s:Same H H'):GivesRd K ad H' r Q:=fun x H2 s2 nx hx=>k x H2 (s.trans s2) (s.free nx) hx
theorem GivesRd.bad {e:Nat}{Q:VK}(k:GivesRd K ad H (.error e) Q) :
  ∀ x dx,H x=none->H dx=none->dx≠x->cX K P w ad [.ref x,.int (e:Int),.non,.non] (upd (upd H dx (.own x)) x (.ins ad.cReading dx [])) (fun v H2=>v=.non/\Q (.ref x) H2) E0:=fun x dx nx ndx hdx=>by
 refine⟨x,dx,_,_,_,rfl,uS,rfl,?_⟩
 rw [cB];exact k x _ ((Same.new ndx).upd nx) nx ⟨dx,uS⟩
theorem GivesRd.good {p:Nat}{ns:List Nat}{oa:Addr}{Q:VK}(k:GivesRd K ad H (.ok (p,ns)) Q)(ho:SqT K H oa (bv ns)) :
  ∀ x dx,H x=none->H dx=none->dx≠x->cX K P w ad [.ref x,.int 0,.int (p:Int),.ref oa] (upd (upd H dx (.own x)) x (.ins ad.cReading dx [])) (fun v H2=>v=.non/\Q (.ref x) H2) E0:=fun x dx nx ndx hdx=>by
 refine⟨x,dx,_,_,_,rfl,uS,rfl,?_⟩
 rw [cB];have s:Same H (upd (upd H dx (.own x)) x (.ins ad.cReading dx (cQ (.int 0) (.int (p:Int)) (.ref oa)))):=(Same.new ndx).upd nx
 exact k x _ s nx ⟨dx,oa,uS,s.tup ho⟩
def kF (ws:List Bytes):Option Bool:=ws.head?.bind unitWord
def cJ (ws:List Bytes):List Bytes:=if (kF ws).isSome=true then ws.tail else ws
def errU (t:Table)(pw:Nat)(af:Option Bool)(x:Nat×Option Nat):Nat:=match manAt t.men x.1 with
 | none=>5
 | some u=>if u.power≠pw then 5 else if Vbsoac.fitsUnit u (af,x)=false then 6 else 0
def sp_wrong:SP:=fun K P w ad vs H Q _=>∃ (e:Nat),vs=[.int e]/\GivesRd K ad H (.error e) Q
def sp_unit_word_of:SP:=fun K P w ad vs H Q _=>∃ (a:Addr)(ws:List Bytes)(qs:List Addr),vs=[.ref a]/\H a=some (.lst (qs.map V.ref))/\WordsAt H ws qs/\∀ H',Same H H'->Q (oV ((kF ws).map bit)) H'
def jT:SP:=fun K P w ad vs H Q _=>∃ (a:Addr)(ws:List Bytes)(qs:List Addr),vs=[.ref a]/\H a=some (.lst (qs.map V.ref))/\WordsAt H ws qs/\∀ b rs H',Same H H'->H' b=some (.lst (rs.map V.ref))->WordsAt H' (cJ ws) rs->Q (.ref b) H'
def sp_error_of_unit:SP:=fun K P w ad vs H Q _=>∃ (tb x dx:Addr)(A:TAd)(t:Table)(pw:Nat)(af:Option Bool)(y:Nat×Option Nat),vs=[.ref tb,.int pw,oV (af.map bit),.ref x]/\TabAt K P w ad H tb A t/\H x=some (.ins ad.cPlace dx (plF (.ok y)))/\Q (.int (errU t pw af y:Nat)) H
def sp_read_hold:SP:=fun K P w ad vs H Q _=>∃ (a:Addr)(p:Nat)(ws:List Bytes)(qs:List Addr),vs=[.int p,.ref a]/\H a=some (.lst (qs.map V.ref))/\WordsAt H ws qs/\GivesRd K ad H (if ws=[] then .ok (p,[0,0,0,0]) else .error 1) Q
def fitK (u:Man):Option Bool->Bool
 | none=>true
 | some f=>f==u.fleet
def fitS (u:Man):Option Nat->Bool
 | none=>true
 | some s=>u.fleet&&s==u.shore
theorem fits_eq (u:Man)(af:Option Bool)(i:Nat)(so:Option Nat):Vbsoac.fitsUnit u (af,(i,so))=(fitK u af&&fitS u so):=by cases af <;> cases so <;> rfl
theorem cps_army:cpsOf "army" = word "army" := by decide
theorem cps_fleet:cpsOf "fleet" = word "fleet" := by decide
theorem cutV_tail (xs:List V):kC xs (some 1) none=xs.tail:=by
 unfold kC;rw [show(some (1:Int))=some ((1:Nat):Int) from rfl,HT.sIx_nat,HT.sIx_none]
 cases xs with
 | nil=>rfl
 | cons x r =>
  rw [show min 1 (x::r).length=1 by simp only [List.length_cons];omega]
  simp
theorem WordsAt.tail {ws:List Bytes}{qs:List Addr}(h:WordsAt H ws qs):WordsAt H ws.tail qs.tail:=by
 cases h with
 | nil=>exact .nil
 | cons _ t=>exact t
abbrev O_wrong:=DO "wrong" 3 ["error"] sp_wrong
theorem ok_wrong (F:Fun K "wrong" "wrong" st_wrong f fd)(T:Txt K mg ad)(D_Reading:O_Reading P w K mg base ad):FnOk P w K mg base CX0 3 f fd ["error"] (sp_wrong K P w ad):=by
 refine F.ok sc_wrong (fun vs H Q E h=>?_) (fun _ A _ s H vs Q E hr h=>?_)
 ·obtain⟨e,rfl,_⟩:=h;rfl
 ·obtain⟨e,rfl,k⟩:=h;refine⟨_,(sO (sR (dO D_Reading hr (pC (pv 0) (pC pe_non (pC pe_non pN)))))),?_⟩
  walk_at "rd";exact k.bad
abbrev O_unit_word_of:=DO "unit_word_of" 2 ["words"] sp_unit_word_of
theorem ok_unit_word_of (F:Fun K "unit_word_of" "unit_word_of" jI f fd)(T:Txt K mg ad)(D_spelled:gM P w K mg base ad):FnOk P w K mg base CX0 2 f fd ["words"] (sp_unit_word_of K P w ad):=by
 refine F.ok sc_unit_word_of (fun vs H Q E h=>?_) (fun _ A _ s H vs Q E hr h=>?_)
 ·obtain⟨a,ws,qs,rfl,_⟩:=h;rfl
 ·obtain⟨a,ws,qs,rfl,h1,h2,k⟩:=h;have hu64:=hr.units
  refine⟨_,(sC (aB (tR aM (aR T.n_len (pC (pv 0) pN)) eJ (nMk _)) (sO (sR pe_non)) sN)
   (sC (aB (tR (op_eqD hu64) (aN aP (pv 0) eJ (fun _ _=>rfl)) (eD D_spelled hr (pC cZ pN)) (nMk _)) (sO (sR (eG rfl T.g_ARMY))) sN)
   (sC (aB (tR (op_eqD hu64) (aN aP (pv 0) eJ (fun _ _=>rfl)) (eD D_spelled hr (pC cZ pN)) (nMk _)) (sO (sR (eG rfl T.g_FLEET))) sN)
   (sO (sR pe_non))))),?_⟩
  walk_at "rd";refine⟨_,.inl (SqL.of h1),rfl,?_⟩
  cases h2 with
  | nil =>
   rw [if_pos (by rfl)]
   exact k H (Same.refl _)
  | cons g r =>
   rename_i x q xs qs
   rw [if_neg (by simp only [List.map_cons,List.length_cons];omega)]
   refine⟨_,SqL.of h1,_,aV (j:=0) rfl,"army",rfl,by decide,fun p1 H1 s1 n1 hp1=>?_⟩
   rw [cps_army] at hp1;refine eq_bv (SqT.of (s1 _ _ g)) (SqT.of hp1) ⟨_,rfl,?_⟩
   by_cases c1:x=word "army"
   ·rw [if_pos (decide_eq_true c1)];have:=k H1 s1
    have e:kF (x::xs)=some false:=by
     show unitWord x=some false
     unfold unitWord;rw [if_pos c1]
    rw [e] at this;exact this
   rw [if_neg (by simpa using c1)]
   refine⟨_,SqL.of (s1 _ _ h1),_,aV (j:=0) rfl,"fleet",rfl,by decide,fun p2 H2 s2 n2 hp2=>?_⟩
   rw [cps_fleet] at hp2;refine eq_bv (SqT.of ((s1.trans s2) _ _ g)) (SqT.of hp2) ⟨_,rfl,?_⟩
   have:=k H2 (s1.trans s2)
   by_cases c2:x=word "fleet"
   ·rw [if_pos (decide_eq_true c2)]
    have e:kF (x::xs)=some true:=by
     show unitWord x=some true
     unfold unitWord;rw [if_neg c1,if_pos c2]
    rw [e] at this;exact this
   ·rw [if_neg (by simpa using c2)]
    have e:kF (x::xs)=none:=by
     show unitWord x=none
     unfold unitWord;rw [if_neg c1,if_neg c2]
    rw [e] at this;exact this
abbrev gF:=DO "behind_unit_word" 3 ["words"] jT
theorem ok_behind_unit_word (F:Fun K "behind_unit_word" "behind_unit_word" fE f fd)(T:Txt K mg ad)(D_unit_word_of:O_unit_word_of P w K mg base ad):FnOk P w K mg base CX0 3 f fd ["words"] (jT K P w ad):=by
 refine F.ok sc_behind_unit_word (fun vs H Q E h=>?_) (fun _ A _ s H vs Q E hr h=>?_)
 ·obtain⟨a,ws,qs,rfl,_⟩:=h;rfl
 ·obtain⟨a,ws,qs,rfl,h1,h2,k⟩:=h;refine⟨_,(sO (sR (pe_ifExp (hE (pc_isN (eD D_unit_word_of hr (pC (pv 0) pN)))) (pv 0) (cS iU (pv 0) (dL eJ) eX)))),?_⟩
  walk_at "rd";refine⟨a,ws,qs,rfl,h1,h2,fun H1 s1=>?_⟩
  unfold cJ at k;cases e:kF ws with
  | none =>
   rw [e] at k;exact k a qs H1 s1 (s1 _ _ h1) (h2.mono fun b xs z=>s1 _ _ z)
  | some b =>
   rw [e] at k;refine⟨a,_,rfl,SqL.of (s1 _ _ h1),fun p hp=>?_⟩
   rw [cutV_tail];exact k p qs.tail _ (s1.upd (s1.free hp)) (by rw [uS,List.map_tail]) (h2.tail.mono fun b xs z=>by rw [uN (nN (s1 _ _ z) hp)];exact s1 _ _ z)
abbrev O_error_of_unit:=DO "error_of_unit" 1 ["table","power","asked_for","place"] sp_error_of_unit
theorem ok_error_of_unit (F:Fun K "error_of_unit" "error_of_unit" iN f fd)(T:Txt K mg ad) :FnOk P w K mg base CX0 1 f fd ["table","power","asked_for","place"] (sp_error_of_unit K P w ad):=by
 refine F.ok sc_error_of_unit (fun vs H Q E h=>?_) (fun _ A _ s H vs Q E hr h=>?_)
 ·obtain⟨tb,x,dx,A,t,pw,af,y,rfl,_⟩:=h;rfl
 ·obtain⟨tb,x,dx,A,t,pw,af,y,rfl,hT,hx,k⟩:=h;have hu:=iI hr
  refine⟨_,(sC (aD (i:=4) sc_error_of_unit.nd rfl (Or.inl rfl) (pe_dget1 hu (eF (pv 0) rfl) (eF (pv 3) rfl) ⟨rfl,rfl,rfl,rfl⟩))
   (sC (aB (PW.pt (pw_or (hE (pc_isN (pv 4))) (pw_or1 (tR op_ne (eF (pv 4) rfl) (pv 1) (nMk _))))) (sO (sR (eG rfl T.g_NO_UNIT))) sN)
   (sC (aB (PW.pt (iS (hE (pc_notN (pv 2))) (gZ (tR op_ne (pv 2) (eF (pv 4) rfl) (nMk _))))) (sO (sR (eG rfl T.g_OTHER_UNIT))) sN)
   (sC (aB (PW.pt (iS (hE (pc_notN (eF (pv 3) rfl))) (gZ (PW.pt (pw_or (tR aM (eF (pv 4) rfl) (eG rfl T.g_ARMY) (nMk _)) (pw_or1 (tR op_ne (eF (pv 3) rfl) (eF (pv 4) rfl) (nMk _)))))))) (sO (sR (eG rfl T.g_OTHER_UNIT))) sN)
   (sO (sR eJ)))))),?_⟩
  walk_at "s1";obtain⟨i,so⟩:=y;obtain⟨kvs,g1,g2,g3⟩:=unit_get hT i;have hx':H x=some (.ins ad.cPlace dx (bQ (.int 0) (.int (i:Int)) (oV so))):=hx
  refine⟨_,_,_,hT.obj,T.cl_Table,T.nf_Table_units,_,aE,_,rfl,.inl ⟨_,.inl g1⟩,_,_,_,hx',T.cl_Place,T.nf_Place_province,_,bG,_,DGet.k (k:=Sum.inl (i:Int)) g1,?_⟩
  walk_at "c1";unfold errU at k;rcases g3 with ⟨gm,gv⟩ | ⟨m,b,gm,gp,gmem,gv,ub⟩
  ·rw [gv];rw [gm] at k;walk_at "s2";exact k
  ·rw [gv,Option.getD_some];rw [gm] at k;replace k:Q (.int ((if m.power≠pw then 5 else if Vbsoac.fitsUnit m (af,(i,so))=false then 6 else 0:Nat):Int)) H:=k
   obtain⟨ux,uo,u1,u2⟩:=ub;walk_at "s2";rw [if_neg (by intro z;cases z)]
   refine⟨_,_,_,u1,T.cl_Unit,T.nf_Unit_power,_,jY,rfl,?_⟩
   by_cases c1:m.power≠pw
   ·rw [if_pos (by rw [V.int.injEq];omega)]
    rw [if_pos c1] at k;exact k
   rw [if_neg (by rw [Decidable.not_not,V.int.injEq];omega),e2]
   clear e2 k2;rw [if_neg (by simpa using c1)] at k
   rw [fits_eq] at k;walk_at "s3";have bit_inj:∀ f g:Bool,((bit f:Nat):Int)=((bit g:Nat):Int)↔f=g:=by decide
   have next:fitK m af=true->k3 [some (V.ref tb),some (V.int (pw:Int)),some (oV (Option.map bit af)),some (V.ref x),some (V.ref b)] H:=fun c2=>by
    walk_at "c3";rw [c2,Bool.true_and] at k;walk_at "s4";refine⟨_,_,_,hx',T.cl_Place,T.nf_Place_shore,_,fM,?_⟩
    cases so with
    | none =>
     rw [if_neg (by intro z;exact z rfl),if_neg (by decide),e4]
     exact k
    | some s =>
     rw [if_pos (by intro z;cases z)]
     refine⟨_,_,_,u1,T.cl_Unit,T.nf_Unit_fleet,_,bO,rfl,?_⟩
     have last:(fitS m (some s)=false->Q (V.int 6) H)/\(fitS m (some s)=true->Q (V.int 0) H):=by
      refine⟨fun z=>?_,fun z=>?_⟩
      ·rw [if_pos z] at k;exact k
      ·rw [if_neg (by rw [z];decide)] at k
       exact k
     cases cf:m.fleet with
     | false =>
      rw [if_pos (by rfl),if_pos trivial]
      refine last.1 ?_
      unfold fitS;rw [cf];rfl
     | true =>
      rw [if_neg (by decide)];refine⟨_,_,_,hx',T.cl_Place,T.nf_Place_shore,_,fM,_,_,_,u1,T.cl_Unit,T.nf_Unit_shore,_,eZ,rfl,?_⟩
      have ef:fitS m (some s)=(s==m.shore):=by
       unfold fitS;rw [cf];rfl
      rw [ef] at last;by_cases cs:s=m.shore
      ·rw [if_neg (by rw [Decidable.not_not,cs];rfl),e4]
       exact last.2 (by simpa using cs)
      ·rw [if_pos (by intro z;exact cs (by have:=V.int.inj z;omega))]
       exact last.1 (by simpa using cs)
   cases af with
   | none =>
    rw [if_neg (by intro z;exact z rfl),if_neg (by decide)]
    exact next rfl
   | some f' =>
    rw [if_pos (by intro z;cases z)]
    refine⟨_,_,_,u1,T.cl_Unit,T.nf_Unit_fleet,_,bO,rfl,?_⟩
    by_cases cf:f'=m.fleet
    ·rw [if_neg (by rw [Decidable.not_not,cf];rfl)]
     exact next (by simpa [fitK] using cf)
    ·rw [if_pos (by intro z;exact cf ((bit_inj _ _).mp (V.int.inj z)))]
     have:fitK m (some f')=false:=by simpa [fitK] using cf
     rw [this,Bool.false_and,if_pos rfl] at k;exact k
abbrev O_read_hold:=DO "read_hold" 4 ["p","words"] sp_read_hold
theorem ok_read_hold (F:Fun K "read_hold" "read_hold" st_read_hold f fd)(T:Txt K mg ad)(D_Reading:O_Reading P w K mg base ad)(D_wrong:O_wrong P w K mg base ad):FnOk P w K mg base CX0 4 f fd ["p","words"] (sp_read_hold K P w ad):=by
 refine F.ok sc_read_hold (fun vs H Q E h=>?_) (fun _ A _ s H vs Q E hr h=>?_)
 ·obtain⟨a,p,ws,qs,rfl,_⟩:=h;rfl
 ·obtain⟨a,p,ws,qs,rfl,h1,h2,k⟩:=h
  refine⟨_,(sC (aB (tR op_gt (aR T.n_len (pC (pv 1) pN)) eJ (nMk _)) (sO (sR (eD D_wrong hr (pC (eG rfl T.g_MALFORMED) pN)))) sN)
   (sO (sR (dO D_Reading hr (pC eJ (pC (pv 0) (pC (eG rfl T.g_HOLD) pN))))))),?_⟩
  walk_at "rd";refine⟨_,.inl (SqL.of h1),?_⟩
  cases h2 with
  | nil =>
   rw [if_neg (by simp)];exact k.good (T.t_HOLD H)
  | cons g r =>
   rw [if_pos (by simp only [List.map_cons,List.length_cons];omega)]
   exact⟨1,rfl,k⟩
def tW (w:Bytes):PyData:=tI (nI w)
theorem dpAll_words:∀ {ws:List Bytes}{qs:List Addr},WordsAt H ws qs->DpAll K H (qs.map V.ref) (ws.map tW)
 | _,_,.nil=>.nil
 | _,_,.cons h t=>.cons (dp_bv (SqT.of h)) (dpAll_words t)
theorem canLay_words:∀ ws:List Bytes,PyData.canLayAll0 (ws.map tW)=true
 | []=>by simp [PyData.canLayAll0]
 | w::ws=>by
  have h:=SeqAt.canLay_of_shaped (iQ (nI w));simp only [List.map_cons,PyData.canLayAll0,Bool.and_eq_true];exact⟨h,canLay_words ws⟩
theorem depth_words:∀ ws:List Bytes,PyData.depthAll (ws.map tW)<=1
 | []=>by simp [PyData.depthAll]
 | w::ws=>by
  have h:(tW w).depth=1:=by unfold tW tI;simp [PyData.depth,depth_ints]
  have ih:=depth_words ws;simp only [List.map_cons,PyData.depthAll,h];omega
theorem shaped_words (ws:List Bytes):SeqAt.shaped (.list (ws.map tW))=true:=by
 unfold SeqAt.shaped;have h:=depth_words ws;rw [Bool.and_eq_true,decide_eq_true_eq];refine⟨by simp only [PyData.canLay0];exact canLay_words ws,?_⟩
 simp only [PyData.depth];omega
theorem eqvAll_words:∀ ws vs:List Bytes,PyData.eqvAll (ws.map tW) (vs.map tW)=decide (ws=vs)
 | [],[]=>by simp [PyData.eqvAll]
 | [],m::ms=>by simp [PyData.eqvAll]
 | n::ns,[]=>by simp [PyData.eqvAll]
 | n::ns,m::ms=>by
  simp only [List.map_cons,PyData.eqvAll,tW,eqv_bv,List.cons.injEq,Bool.decide_and];rw [<-eqvAll_words ns ms]
theorem ne_words {a b:Addr}{ws vs:List Bytes}{qs rs:List Addr}{Q:VK}(h1:SqL K H a (qs.map V.ref))(h2:WordsAt H ws qs)(k1:SqL K H b (rs.map V.ref))(k2:WordsAt H vs rs)(q:Q (.bl (!decide (ws=vs))) H):rNeD K (.ref a) (.ref b) H Q :=
 ⟨_,_,.lst h1 (dpAll_words h2),.lst k1 (dpAll_words k2),shaped_words _,shaped_words _,by simp only [PyData.eqv,eqvAll_words];exact q⟩
def meantSh (t:Table)(u:Man)(y:Nat×Option Nat):List Nat:=match y.2 with
 | some s=>[s]
 | none=>if 0 < (bN t (place u.prov u.shore) y.1).length then bN t (place u.prov u.shore) y.1 else [0]
theorem told_lt {t:Table}{l:Bytes}{y:Nat×Option Nat}(h:Vbsoac.told t.map l=.ok y):y.1 < aF t/\∀ s,y.2=some s->s < (provAt t.map y.1).shores.length:=by
 unfold Vbsoac.told at h;have hl:=find_lt (m:=t.map) (l:=(Vbsoab.cutAt l).1)
 dsimp only at h;split at h
 ·cases h
 ·rename_i i e
  rw [e] at hl;have hi:=hl i List.mem_cons_self;split at h
  ·cases h;exact⟨hi,fun s z=>by cases z⟩
  ·rename_i s _
   split at h
   ·cases h
   ·rename_i k e2
    cases h;obtain⟨hk,_⟩:=List.findIdx?_eq_some_iff_getElem.mp e2;exact⟨hi,fun s z=>by cases z;exact hk⟩
 ·cases h
theorem told_err {m:Vbsoab.Map}{l:Bytes}{e:Nat}(h:Vbsoac.told m l=.error e):e≠0:=by
 unfold Vbsoac.told at h;dsimp only at h;split at h
 ·cases h;decide
 ·split at h
  ·cases h
  ·split at h
   ·cases h;decide
   ·cases h
 ·cases h;decide
theorem first_err {t:Table}{ws:List Bytes}{e:Nat}(h:bE t ws=.error e):e≠0:=by
 cases ws with
 | nil=>cases h;decide
 | cons w r=>exact told_err h
theorem first_lt {t:Table}{ws:List Bytes}{y:Nat×Option Nat}(h:bE t ws=.ok y):y.1 < aF t/\∀ s,y.2=some s->s < (provAt t.map y.1).shores.length:=by
 cases ws with
 | nil=>cases h
 | cons w r=>exact told_lt h
theorem target_fleet {t:Table}{u:Man}{y:Nat×Option Nat}(hf:u.fleet=true):Vbsoac.target (boardOf t.map) t.map u y=if 1 < (meantSh t u y).length then .error 9 else .ok ((meantSh t u y).headD 0):=by
 unfold Vbsoac.target meantSh;rw [hf,if_neg (by decide)];obtain⟨i,so⟩:=y;cases so with
 | some s=>simp
 | none =>
  dsimp only;have el:Vbsoac.landings (boardOf t.map) t.map u i=bN t (place u.prov u.shore) i:=rfl
  by_cases c:(provAt t.map i).shores=[]
  ·rw [if_pos c];have h1:shoresOf t.map i=1:=by unfold shoresOf;rw [c];rfl
   have h2:bN t (place u.prov u.shore) i=[]\/bN t (place u.prov u.shore) i=[0]:=by
    unfold bN;rw [h1,show List.range 1=[0] from rfl,List.filter_cons]
    split
    ·exact .inr rfl
    ·exact .inl rfl
   rcases h2 with e | e <;> rw [e] <;> simp
  ·rw [if_neg c,el];cases e:bN t (place u.prov u.shore) i with
   | nil=>simp
   | cons a r =>
    cases r with
    | nil=>simp
    | cons b r=>simp
def nums (u:Man):Except Nat Vbsoaa.Order->Except Nat (Nat×List Nat)
 | .error e=>.error e
 | .ok o=>.ok (u.prov,orderNumbers o)
def jC (t:Table)(u:Man)(r:List Bytes):Except Nat Vbsoaa.Order:=match r with
 | []=>.error 1
 | w::r=>match Vbsoac.told t.map w with
  | .error e=>.error e
  | .ok x =>
   if r≠[]/\r≠[word "by",word "water"] then .error 1
   else match Vbsoac.target (boardOf t.map) t.map u x with
    | .error e=>.error e
    | .ok s=>.ok (.move x.1 s (r != []))
def sp_shores_meant:SP:=fun K P w ad vs H Q _=>∃ (tb x dx:Addr)(A:TAd)(t:Table)(p:Nat)(u:Man)(y:Nat×Option Nat),vs=[.ref tb,.int p,.ref x]/\TabAt K P w ad H tb A t/\manAt t.men p=some u/\H x=some (.ins ad.cPlace dx (plF (.ok y)))/\y.1 < aF t /\
 ∀ D H',Same H H'->H' D=some (.lst (bv (meantSh t u y)))->Q (.ref D) H'
def sp_read_move:SP:=fun K P w ad vs H Q _=>∃ (tb a:Addr)(A:TAd)(t:Table)(p:Nat)(u:Man)(ws:List Bytes)(qs:List Addr),vs=[.ref tb,.int p,.ref a]/\TabAt K P w ad H tb A t/\manAt t.men p=some u/\H a=some (.lst (qs.map V.ref))/\WordsAt H ws qs/\GivesRd K ad H (nums u (jC t u ws)) Q
theorem cps_by:cpsOf "by" = word "by" := by decide
theorem cps_water:cpsOf "water" = word "water" := by decide
abbrev O_shores_meant:=DO "shores_meant" 4 ["table","p","place"] sp_shores_meant
theorem ok_shores_meant (F:Fun K "shores_meant" "shores_meant" jJ f fd)(T:Txt K mg ad)(D_Table_linked_shores:dY P w K mg base ad):FnOk P w K mg base CX0 4 f fd ["table","p","place"] (sp_shores_meant K P w ad):=by
 refine F.ok sc_shores_meant (fun vs H Q E h=>?_) (fun _ A _ s H vs Q E hr h=>?_)
 ·obtain⟨tb,x,dx,A,t,p,u,y,rfl,_⟩:=h;rfl
 ·obtain⟨tb,x,dx,A,t,p,u,⟨i,so⟩,rfl,hT,hm,hx,hi,k⟩:=h;have hu:=iI hr;have hx':H x=some (.ins ad.cPlace dx (bQ (.int 0) (.int (i:Int)) (oV so))):=hx
  obtain⟨hmem,hp⟩:=kY hm
  refine⟨_,(sC (aB (hE (pc_notN (eF (pv 2) rfl))) (sO (sR (aT (pC (eF (pv 2) rfl) pN)))) sN)
   (sC (aD (i:=3) sc_shores_meant.nd rfl (Or.inl rfl) (aH (pv 0) T.cl_Table D_Table_linked_shores hr (pC (eM (pC (pv 1) (pC (eF (hG hu (eF (pv 0) rfl) (pv 1) (fun _ _=>rfl)) rfl) pN))) (pC (eF (pv 2) rfl) pN))))
   (sO (sR (pe_ifExp (tR op_gt (aR T.n_len (pC (pv 3) pN)) eJ (nMk _)) (pv 3) (aT (pC eJ pN))))))),?_⟩
  walk_at "s1";refine⟨_,_,_,hx',T.cl_Place,T.nf_Place_shore,_,fM,?_⟩
  cases so with
  | some s =>
   rw [if_pos (by intro z;cases z)]
   refine⟨_,_,_,hx',T.cl_Place,T.nf_Place_shore,_,fM,by show 1<=sizeLine;decide,fun D hD=>k D _ (Same.new hD) ?_⟩
   rw [uS];rfl
  | none =>
  rw [if_neg (by intro z;exact z rfl),e1]
  clear e1 k1;obtain⟨kvs,g1,g2,g3⟩:=unit_get hT p;rcases g3 with ⟨gm,gv⟩ | ⟨m,b,gm,gp,gmem,gv,ub⟩
  ·rw [hm] at gm;cases gm
  have e:m=u:=Option.some.inj (gm.symm.trans hm)
  subst e;obtain⟨ux,uo,u1,u2⟩:=ub;have mo:=hT.wf.man m hmem;have s4:m.shore < 4:=Nat.lt_of_lt_of_le mo.shore (shores4 hT.wf mo.prov)
  walk_at "s2";refine⟨_,_,hT.obj,fL,_,_,_,hT.obj,T.cl_Table,T.nf_Table_units,_,aE,_,rfl,_,by rw [<-gv];exact DGet.k (k:=Sum.inl (p:Int)) g1,?_⟩
  refine⟨_,rfl,_,_,_,u1,T.cl_Unit,T.nf_Unit_shore,_,eZ,by show 2<=sizeLine;decide,fun y hy=>?_⟩
  have s1:=Same.new (o:=.tup [V.int (p:Int),V.int (m.shore:Int)]) hy
  refine⟨_,_,_,(s1 _ _ hx'),T.cl_Place,T.nf_Place_province,_,bG,tb,y,A,t,place m.prov m.shore,i,rfl,hT.same s1,?_,hi,fun D H2 s2 nD hD=>?_⟩
  ·show upd _ y _ y=_
   rw [uS,gE s4,gp]
  walk_at "c2";have k':=k;unfold meantSh at k';dsimp only at k';walk_at "rd";refine⟨_,.inl (SqL.of hD),?_⟩
  rw [aG];by_cases c:0 < (bN t (place m.prov m.shore) i).length
  ·rw [if_pos (by omega)];rw [if_pos c] at k';exact k' D H2 (s1.trans s2) hD
  ·rw [if_neg (by omega)];rw [if_neg c] at k';refine⟨by show 1<=sizeLine;decide,fun D3 hD3=>k' D3 _ ((s1.trans s2).upd ((s1.trans s2).free hD3)) ?_⟩
   rw [uS];rfl
abbrev O_read_move:=DO "read_move" 7 ["table","p","words"] sp_read_move
theorem ok_read_move (F:Fun K "read_move" "read_move" st_read_move f fd)(T:Txt K mg ad)(D_Reading:O_Reading P w K mg base ad)(D_wrong:O_wrong P w K mg base ad)(D_shores_meant:O_shores_meant P w K mg base ad)(D_spelled:gM P w K mg base ad)(D_read_first_place:dN P w K mg base ad):FnOk P w K mg base CX0 7 f fd ["table","p","words"] (sp_read_move K P w ad):=by
 refine F.ok sc_read_move (fun vs H Q E h=>?_) (fun _ A _ s H vs Q E hr h=>?_)
 ·obtain⟨tb,a,A,t,p,u,ws,qs,rfl,_⟩:=h;rfl
 ·obtain⟨tb,a,A,t,p,u,ws,qs,rfl,hT,hm,h1,h2,k⟩:=h;have hu:=iI hr;have hu64:=hr.units;obtain⟨hmem,hp⟩:=kY hm
  refine⟨_,(sC (aD (i:=3) sc_read_move.nd rfl (Or.inl rfl) (eD D_read_first_place hr (pC (pv 0) (pC (pv 2) pN))))
   (sC (aB (tR op_ne (eF (pv 3) rfl) eJ (nMk _)) (sO (sR (eD D_wrong hr (pC (eF (pv 3) rfl) pN)))) sN)
   (sC (aD (i:=4) sc_read_move.nd rfl (Or.inl rfl) (cS iU (pv 2) (dL eJ) eX))
   (sC (aB (PW.pt (iS (tR op_gt (aR T.n_len (pC (pv 4) pN)) eJ (nMk _)) (gZ (tR (op_neD hu64) (pv 4) (aT (pC (eD D_spelled hr (pC cZ pN)) (pC (eD D_spelled hr (pC cZ pN)) pN))) (nMk _))))) (sO (sR (eD D_wrong hr (pC (eG rfl T.g_MALFORMED) pN)))) sN)
   (sC (aD (i:=5) sc_read_move.nd rfl (Or.inl rfl) (pe_ifExp (tR op_gt (aR T.n_len (pC (pv 4) pN)) eJ (nMk _)) eJ eJ))
   (sC (aB (tR aM (eF (hG hu (eF (pv 0) rfl) (pv 1) (fun _ _=>rfl)) rfl) (eG rfl T.g_ARMY) (nMk _)) (sC (aB (hE (pc_notN (eF (pv 3) rfl))) (sO (sR (eD D_wrong hr (pC (eG rfl T.g_ARMY_TO_SHORE) pN)))) sN)
   (sO (sR (dO D_Reading hr (pC eJ (pC (pv 1) (pC (eM (pC (eG rfl T.g_MOVE) (pC (eF (pv 3) rfl) (pC eJ (pC (pv 5) pN))))) pN))))))) sN)
   (sC (aD (i:=6) sc_read_move.nd rfl (Or.inl rfl) (eD D_shores_meant hr (pC (pv 0) (pC (pv 1) (pC (pv 3) pN)))))
   (sC (aB (tR op_gt (aR T.n_len (pC (pv 6) pN)) eJ (nMk _)) (sO (sR (eD D_wrong hr (pC (eG rfl T.g_SEVERAL_SHORES) pN)))) sN)
   (sO (sR (dO D_Reading hr (pC eJ (pC (pv 1) (pC (eM (pC (eG rfl T.g_MOVE) (pC (eF (pv 3) rfl) (pC (aN aP (pv 6) eJ (fun _ _=>rfl)) (pC (pv 5) pN))))) pN)))))))))))))),?_⟩
  walk_at "s1";refine⟨tb,a,A,t,ws,qs,rfl,hT,h1,h2,fun x dx H1 s1 nx hx=>?_⟩
  walk_at "c1";walk_at "s2"
  have mt:jC t u ws=(match bE t ws with
    | .error e=>.error e
    | .ok x=>if ws.tail≠[]/\ws.tail≠[word "by",word "water"] then .error 1
     else match Vbsoac.target (boardOf t.map) t.map u x with
      | .error e=>.error e
      | .ok s=>.ok (.move x.1 s (ws.tail != []))):=by
   cases ws <;> rfl
  cases hf:bE t ws with
  | error e =>
   rw [hf] at hx mt;have hx':H1 x=some (.ins ad.cPlace dx (bQ (.int (e:Int)) .non .non)):=hx
   rw [mt] at k;have ne:=first_err hf;refine⟨_,_,_,hx',T.cl_Place,T.nf_Place_error,_,aW,rfl,?_⟩
   rw [if_pos (by intro z;have:=V.int.inj z;omega)]
   exact⟨_,_,_,hx',T.cl_Place,T.nf_Place_error,_,aW,e,rfl,k.later s1⟩
  | ok y =>
  rw [hf] at hx mt;dsimp only at mt;obtain⟨i,so⟩:=y;obtain⟨hi,hso⟩:=first_lt hf;have hx':H1 x=some (.ins ad.cPlace dx (bQ (.int 0) (.int (i:Int)) (oV so))):=hx
  refine⟨_,_,_,hx',T.cl_Place,T.nf_Place_error,_,aW,rfl,?_⟩
  rw [if_neg (by intro z;exact z rfl),e2]
  clear e2 k2;walk_at "s3";refine⟨a,_,rfl,SqL.of (s1 _ _ h1),fun b hb=>?_⟩
  rw [cutV_tail];have s2:Same H (upd H1 b (.lst (qs.map V.ref).tail)):=s1.upd (s1.free hb)
  have hb2:upd H1 b (.lst (qs.map V.ref).tail) b=some (.lst (qs.tail.map V.ref)):=by rw [uS,List.map_tail]
  have s12:Same H1 (upd H1 b (.lst (qs.map V.ref).tail)):=Same.new hb
  generalize hH2:upd H1 b (.lst (qs.map V.ref).tail)=H2 at s2 hb2 s12 ⊢;have hw2:WordsAt H2 ws.tail qs.tail:=h2.tail.mono fun c xs z=>s2 _ _ z
  have hlen:ws.tail.length=qs.tail.length:=Paired.length hw2
  walk_at "c3";generalize hr0:ws.tail=r at *;have hx2:=s12 _ _ hx';walk_at "s4";refine⟨_,.inl (SqL.of hb2),?_⟩
  rw [List.length_map,<-hlen]
  have next:∀ H3,Same H2 H3->¬ (r≠[]/\r≠[word "by",word "water"])->k4 [some (V.ref tb),some (V.int (p:Int)),some (V.ref a),some (V.ref x),some (V.ref b),none,none] H3:=fun H3 s3 c=>by
   walk_at "c4";rw [if_neg c] at mt;have s4:=s2.trans s3;have hT3:=hT.same s4;have k3':=k.later s4;have hx3:=s3 _ _ hx2;walk_at "s5";refine⟨_,.inl (SqL.of (s3 _ _ hb2)),?_⟩
   rw [List.length_map,<-hlen]
   have ew:(if 0 < (r.length:Int) then k5 [some (V.ref tb),some (V.int (p:Int)),some (V.ref a),some (V.ref x),some (V.ref b),some (V.int 1),none] H3 else k5 [some (V.ref tb),some (V.int (p:Int)),some (V.ref a),some (V.ref x),some (V.ref b),some (V.int 0),none] H3)=k5 [some (V.ref tb),some (V.int (p:Int)),some (V.ref a),some (V.ref x),some (V.ref b),some (V.int ((bit (r != []):Nat):Int)),none] H3:=by
    cases r with
    | nil=>rfl
    | cons c cs =>
     rw [if_pos (by simp only [List.length_cons];omega)]
     rfl
   rw [ew,e5];clear e5 k5 ew;obtain⟨kvs,g1,g2,g3⟩:=unit_get hT3 p;rcases g3 with ⟨gm,gv⟩ | ⟨m,ub,gm,gp,gmem,gv,uat⟩
   ·rw [hm] at gm;cases gm
   have em:m=u:=Option.some.inj (gm.symm.trans hm)
   subst em;obtain⟨ux,uo,u1,u2⟩:=uat;walk_at "s6";refine⟨_,_,_,hT3.obj,T.cl_Table,T.nf_Table_units,_,aE,_,rfl,_,by rw [<-gv];exact DGet.k (k:=Sum.inl (p:Int)) g1,_,rfl,_,_,_,u1,T.cl_Unit,T.nf_Unit_fleet,_,bO,rfl,?_⟩
   cases cf:m.fleet with
   | false =>
    rw [if_pos (by rfl)]
    have tg:Vbsoac.target (boardOf t.map) t.map m (i,so)=if so.isSome=true then .error 8 else .ok 0:=by
     unfold Vbsoac.target;rw [cf,if_pos rfl]
    rw [tg] at mt;refine⟨_,_,_,hx3,T.cl_Place,T.nf_Place_shore,_,fM,?_⟩
    cases so with
    | some s =>
     rw [if_pos (by intro z;cases z)]
     rw [mt] at k3';exact⟨8,rfl,k3'⟩
    | none =>
     rw [if_neg (by intro z;exact z rfl)]
     rw [mt] at k3';refine⟨_,_,_,hx3,T.cl_Place,T.nf_Place_province,_,bG,by show 4<=sizeLine;decide,fun oa noa=>?_⟩
     have s5:=Same.new (o:=.tup [V.int 1,V.int (i:Int),V.int 0,V.int ((bit (r != []):Nat):Int)]) noa
     rw [<-gp];exact(k3'.later s5).good (SqT.of uS)
   | true =>
    rw [if_neg (by intro z;exact absurd (V.int.inj z) (by decide)),e6]
    clear e6 k6;rw [target_fleet cf] at mt;walk_at "s7";refine⟨tb,x,dx,A,t,p,m,(i,so),rfl,hT3,hm,hx3,hi,fun D H4 s5 hD=>?_⟩
    walk_at "c7";have k4':=k3'.later s5;walk_at "s8";refine⟨_,.inl (SqL.of hD),?_⟩
    rw [aG];by_cases c9:1 < (meantSh t m (i,so)).length
    ·rw [if_pos (by omega)];rw [if_pos c9] at mt;rw [mt] at k4';exact⟨9,rfl,k4'⟩
    ·rw [if_neg (by omega),e8];rw [if_neg c9] at mt;walk_at "rd"
     have hne:∃ s0 rs,meantSh t m (i,so)=s0::rs:=by
      unfold meantSh;dsimp only;cases so with
      | some s=>exact⟨_,_,rfl⟩
      | none =>
       dsimp only;split
       ·rename_i z
        cases e:bN t (place m.prov m.shore) i with
        | nil=>rw [e] at z;cases z
        | cons a b=>exact⟨_,_,rfl⟩
       ·exact⟨_,_,rfl⟩
     obtain⟨s0,rs,es⟩:=hne;rw [es] at hD mt;rw [mt] at k4';refine⟨_,_,_,(s5 _ _ hx3),T.cl_Place,T.nf_Place_province,_,bG,_,SqL.of hD,_,aV (j:=0) rfl,by show 4<=sizeLine;decide,fun oa noa=>?_⟩
     have s6:=Same.new (o:=.tup [V.int 1,V.int (i:Int),V.int (s0:Int),V.int ((bit (r != []):Nat):Int)]) noa
     rw [<-gp];exact(k4'.later s6).good (SqT.of uS)
  cases r with
  | nil =>
   rw [if_neg (by simp),if_neg (by decide)];exact next H2 (Same.refl _) (fun z=>z.1 rfl)
  | cons c cs =>
  rw [if_pos (by simp only [List.length_cons];omega)]
  refine⟨"by",rfl,by decide,fun b1 H3 s3 nb1 hb1=>⟨"water",rfl,by decide,fun b2 H4 s4 nb2 hb2'=>⟨by show 2<=sizeLine;decide,fun L nL=>?_⟩⟩⟩
  rw [cps_by] at hb1;rw [cps_water] at hb2';have s5:Same H4 (upd H4 L (.lst [.ref b1,.ref b2])):=Same.new nL
  have s6:Same H2 (upd H4 L (.lst [.ref b1,.ref b2])):=(s3.trans s4).trans s5
  refine ne_words (ws:=c::cs) (vs:=[word "by",word "water"]) (qs:=qs.tail) (rs:=[b1,b2]) (SqL.of (s6 _ _ hb2)) (hw2.mono fun z xs y=>s6 _ _ y) (SqL.of uS) (.cons (s5 _ _ (s4 _ _ hb1)) (.cons (s5 _ _ hb2') .nil)) ⟨_,rfl,?_⟩
  by_cases c9:c::cs=[word "by",word "water"]
  ·rw [if_neg (by simpa using c9)]
   exact next _ s6 (fun z=>z.2 c9)
  ·rw [if_pos (by rw [decide_eq_false c9];rfl)]
   rw [if_pos ⟨by simp,c9⟩] at mt
   rw [mt] at k;exact⟨1,rfl,k.later (s2.trans s6)⟩
def dB (t:Table):List Bytes->Except Nat (Nat×Option Nat)
 | [a,w]=>if a=word "to" then Vbsoac.told t.map w else .error 1
 | _=>.error 1
def jE (t:Table)(alone:Option Nat)(wg:Nat)(ws:List Bytes):Except Nat (List Nat):=match bE t (cJ ws) with
 | .error e=>.error e
 | .ok x=>match alone,(cJ ws).tail with
  | some n,[]=>.ok [n,x.1,0,0]
  | _,r=>match dB t r with
   | .error e=>.error e
   | .ok y=>.ok [wg,x.1,y.1,0]
def withP (p:Nat):Except Nat (List Nat)->Except Nat (Nat×List Nat)
 | .error e=>.error e
 | .ok l=>.ok (p,l)
theorem goal_err {t:Table}{ws:List Bytes}{e:Nat}(h:dB t ws=.error e):e≠0:=by
 unfold dB at h;split at h
 ·split at h
  ·exact told_err h
  ·cases h;decide
 ·cases h;decide
def sp_read_goal:SP:=fun K P w ad vs H Q _=>∃ (tb a:Addr)(A:TAd)(t:Table)(ws:List Bytes)(qs:List Addr),vs=[.ref tb,.ref a]/\TabAt K P w ad H tb A t/\H a=some (.lst (qs.map V.ref))/\WordsAt H ws qs/\GivesPl ad H (dB t ws) Q
def sp_read_help:SP:=fun K P w ad vs H Q _=>∃ (tb a:Addr)(A:TAd)(t:Table)(p:Nat)(ws:List Bytes)(qs:List Addr)(al:Option Nat)(wg:Nat),vs=[.ref tb,.int p,.ref a,oV al,.int wg]/\TabAt K P w ad H tb A t/\H a=some (.lst (qs.map V.ref))/\WordsAt H ws qs/\GivesRd K ad H (withP p (jE t al wg ws)) Q
def sp_read_order:SP:=fun K P w ad vs H Q _=>∃ (tb a:Addr)(A:TAd)(t:Table)(p:Nat)(u:Man)(ws:List Bytes)(qs:List Addr),vs=[.ref tb,.int p,.ref a]/\TabAt K P w ad H tb A t/\manAt t.men p=some u/\H a=some (.lst (qs.map V.ref))/\WordsAt H ws qs/\GivesRd K ad H (nums u (Vbsoac.command (boardOf t.map) t.map u ws)) Q
theorem cps_to:cpsOf "to" = word "to" := by decide
theorem cps_holds:cpsOf "holds" = word "holds" := by decide
theorem cps_supports:cpsOf "supports" = word "supports" := by decide
theorem cps_carries:cpsOf "carries" = word "carries" := by decide
theorem unitTold_eq (t:Table)(r:List Bytes):Vbsoac.unitTold t.map r=(match bE t (cJ r) with
  | .error e=>.error e
  | .ok x=>.ok ((kF r,x),(cJ r).tail)):=by
 cases r with
 | nil=>rfl
 | cons w r =>
  cases e:unitWord w with
  | none =>
   have e1:kF (w::r)=none:=e
   have e2:cJ (w::r)=w::r:=by
    unfold cJ;rw [e1];rfl
   rw [e2,e1];simp only [Vbsoac.unitTold,e,bE];cases Vbsoac.told t.map w <;> rfl
  | some f =>
   have e1:kF (w::r)=some f:=e
   have e2:cJ (w::r)=r:=by
    unfold cJ;rw [e1];rfl
   rw [e2,e1];cases r with
   | nil =>
    simp only [Vbsoac.unitTold,e,bE]
   | cons v r =>
    simp only [Vbsoac.unitTold,e,bE];cases Vbsoac.told t.map v <;> rfl
theorem command_eq (t:Table)(u:Man)(c:Bytes)(r:List Bytes):nums u (Vbsoac.command (boardOf t.map) t.map u (c::r)) =
  if c=word "holds" then(if r=[] then .ok (u.prov,[0,0,0,0]) else .error 1)
  else if c=word "to" then nums u (jC t u r)
  else if c=word "supports" then withP u.prov (jE t (some 2) 3 r)
  else if c=word "carries" then withP u.prov (jE t none 4 r)
  else .error 1:=by
 have ut:=unitTold_eq t;unfold Vbsoac.command;dsimp only;by_cases c1:c=word "holds"
 ·rw [if_pos c1,if_pos c1];by_cases z:r=[]
  ·rw [if_pos z,if_pos z];rfl
  ·rw [if_neg z,if_neg z];rfl
 rw [if_neg c1,if_neg c1];by_cases c2:c=word "to"
 ·rw [if_pos c2,if_pos c2];cases r <;> rfl
 rw [if_neg c2,if_neg c2];by_cases c3:c=word "supports"
 ·rw [if_pos c3,if_pos c3,ut];unfold jE;cases bE t (cJ r) with
  | error e=>rfl
  | ok x =>
   dsimp only;generalize (cJ r).tail=q;match q with
   | []=>rfl
   | [a]=>rfl
   | [a,b] =>
    dsimp only [dB];by_cases z:a=word "to"
    ·rw [if_pos z,if_pos z];cases Vbsoac.told t.map b <;> rfl
    ·rw [if_neg z,if_neg z];rfl
   | a::b::c::d=>rfl
 rw [if_neg c3,if_neg c3];by_cases c4:c=word "carries"
 ·rw [if_pos c4,if_pos c4,ut];unfold jE;cases bE t (cJ r) with
  | error e=>rfl
  | ok x =>
   dsimp only;generalize (cJ r).tail=q;match q with
   | []=>rfl
   | [a]=>rfl
   | [a,b] =>
    dsimp only [dB];by_cases z:a=word "to"
    ·rw [if_pos z,if_pos z];cases Vbsoac.told t.map b <;> rfl
    ·rw [if_neg z,if_neg z];rfl
   | a::b::c::d=>rfl
 rw [if_neg c4,if_neg c4];rfl
abbrev O_read_goal:=DO "read_goal" 6 ["table","words"] sp_read_goal
theorem ok_read_goal (F:Fun K "read_goal" "read_goal" st_read_goal f fd)(T:Txt K mg ad)(D_read_place:O_read_place P w K mg base ad)(D_spelled:gM P w K mg base ad)(D_no_place:O_no_place P w K mg base ad):FnOk P w K mg base CX0 6 f fd ["table","words"] (sp_read_goal K P w ad):=by
 refine F.ok sc_read_goal (fun vs H Q E h=>?_) (fun _ A _ s H vs Q E hr h=>?_)
 ·obtain⟨tb,a,A,t,ws,qs,rfl,_⟩:=h;rfl
 ·obtain⟨tb,a,A,t,ws,qs,rfl,hT,h1,h2,k⟩:=h;have hu64:=hr.units;have hl:ws.length=qs.length:=Paired.length h2
  refine⟨_,(sC (aB (PW.pt (pw_or (tR op_ne (aR T.n_len (pC (pv 1) pN)) eJ (nMk _)) (pw_or1 (tR (op_neD hu64) (aN aP (pv 1) eJ (fun _ _=>rfl)) (eD D_spelled hr (pC cZ pN)) (nMk _))))) (sO (sR (eD D_no_place hr (pC (eG rfl T.g_MALFORMED) pN)))) sN)
   (sO (sR (eD D_read_place hr (pC (pv 0) (pC (aN aP (pv 1) eJ (fun _ _=>rfl)) pN)))))),?_⟩
  walk_at "rd";refine⟨_,.inl (SqL.of h1),rfl,?_⟩
  rw [List.length_map,<-hl];by_cases c:ws.length=2
  ·obtain⟨x,y,rfl⟩:∃ x y,ws=[x,y]:=by
    match ws,c with
    | [x,y],_=>exact⟨x,y,rfl⟩
   rw [if_neg (by simp)];cases h2 with
   | cons g1 r =>
    cases r with
    | cons g2 r2 =>
     cases r2;rename_i q1 q2
     refine⟨_,SqL.of h1,_,aV (j:=0) rfl,"to",rfl,by decide,fun p1 H1 s1 n1 hp1=>?_⟩
     rw [cps_to] at hp1;refine ne_bv (SqT.of (s1 _ _ g1)) (SqT.of hp1) ⟨_,rfl,?_⟩
     by_cases c2:x=word "to"
     ·rw [if_neg (by rw [decide_eq_true c2];decide)]
      have e:dB t [x,y]=Vbsoac.told t.map y:=by
       show(if x=word "to" then Vbsoac.told t.map y else .error 1)=_
       rw [if_pos c2]
      rw [e] at k;exact⟨_,SqL.of (s1 _ _ h1),_,aV (j:=1) rfl,tb,q2,A,t,y,rfl,hT.same s1,s1 _ _ g2,k.later s1⟩
     ·rw [if_pos (by rw [decide_eq_false c2];rfl)]
      have e:dB t [x,y]=.error 1:=by
       show(if x=word "to" then Vbsoac.told t.map y else .error 1)=_
       rw [if_neg c2]
      rw [e] at k;exact⟨1,rfl,k.later s1⟩
  ·rw [if_pos (by omega),if_pos trivial]
   have e:dB t ws=.error 1:=by
    unfold dB;split
    ·exact absurd rfl c
    ·rfl
   rw [e] at k;exact⟨1,rfl,k⟩
abbrev O_read_help:=DO "read_help" 7 ["table","p","words","alone","with_goal"] sp_read_help
theorem ok_read_help (F:Fun K "read_help" "read_help" st_read_help f fd)(T:Txt K mg ad)(D_Reading:O_Reading P w K mg base ad)(D_wrong:O_wrong P w K mg base ad)(D_read_goal:O_read_goal P w K mg base ad)(D_read_first_place:dN P w K mg base ad)(D_behind_unit_word:gF P w K mg base ad):FnOk P w K mg base CX0 7 f fd ["table","p","words","alone","with_goal"] (sp_read_help K P w ad):=by
 refine F.ok sc_read_help (fun vs H Q E h=>?_) (fun _ A _ s H vs Q E hr h=>?_)
 ·obtain⟨tb,a,A,t,p,ws,qs,al,wg,rfl,_⟩:=h;rfl
 ·obtain⟨tb,a,A,t,p,ws,qs,al,wg,rfl,hT,h1,h2,k⟩:=h
  refine⟨_,(sC (aD (i:=5) sc_read_help.nd rfl (Or.inl rfl) (eD D_behind_unit_word hr (pC (pv 2) pN)))
   (sC (aD (i:=6) sc_read_help.nd rfl (Or.inl rfl) (eD D_read_first_place hr (pC (pv 0) (pC (pv 5) pN))))
   (sC (aB (tR op_ne (eF (pv 6) rfl) eJ (nMk _)) (sO (sR (eD D_wrong hr (pC (eF (pv 6) rfl) pN)))) sN)
   (sC (aB (PW.pt (iS (tR aM (aR T.n_len (pC (pv 5) pN)) eJ (nMk _)) (gZ (hE (pc_notN (pv 3)))))) (sO (sR (dO D_Reading hr (pC eJ (pC (pv 1) (pC (eM (pC (pv 3) (pC (eF (pv 6) rfl) (pC eJ (pC eJ pN))))) pN)))))) sN)
   (sC (aD (i:=7) sc_read_help.nd rfl (Or.inl rfl) (eD D_read_goal hr (pC (pv 0) (pC (cS iU (pv 5) (dL eJ) eX) pN))))
   (sC (aB (tR op_ne (eF (pv 7) rfl) eJ (nMk _)) (sO (sR (eD D_wrong hr (pC (eF (pv 7) rfl) pN)))) sN)
   (sO (sR (dO D_Reading hr (pC eJ (pC (pv 1) (pC (eM (pC (pv 4) (pC (eF (pv 6) rfl) (pC (eF (pv 7) rfl) (pC eJ pN))))) pN)))))))))))),?_⟩
  walk_at "s1";refine⟨a,ws,qs,rfl,h1,h2,fun b rs H1 s1 hb hw=>?_⟩
  walk_at "c1";unfold jE at k;generalize hbh:cJ ws=bw at *;have hl:bw.length=rs.length:=Paired.length hw
  walk_at "s2";refine⟨tb,b,A,t,bw,rs,rfl,hT.same s1,hb,hw,fun x dx H2 s2 nx hx=>?_⟩
  walk_at "c2";have s12:=s1.trans s2;walk_at "s3";cases hf:bE t bw with
  | error e =>
   rw [hf] at hx k;have hx':H2 x=some (.ins ad.cPlace dx (bQ (.int (e:Int)) .non .non)):=hx
   have ne:=first_err hf;refine⟨_,_,_,hx',T.cl_Place,T.nf_Place_error,_,aW,rfl,?_⟩
   rw [if_pos (by intro z;have:=V.int.inj z;omega)]
   exact⟨_,_,_,hx',T.cl_Place,T.nf_Place_error,_,aW,e,rfl,k.later s12⟩
  | ok y =>
  rw [hf] at hx k;dsimp only at k;obtain⟨i,so⟩:=y;have hx':H2 x=some (.ins ad.cPlace dx (bQ (.int 0) (.int (i:Int)) (oV so))):=hx
  refine⟨_,_,_,hx',T.cl_Place,T.nf_Place_error,_,aW,rfl,?_⟩
  rw [if_neg (by intro z;exact z rfl),e3]
  clear e3 k3;cases bw with
  | nil=>cases hf
  | cons w0 bw0 =>
  walk_at "s4";refine⟨_,.inl (SqL.of (s2 _ _ hb)),rfl,?_⟩
  rw [List.length_map,<-hl]
  have next:(GivesRd K ad H (withP p (match dB t bw0 with
     | .error e=>.error e
     | .ok y=>.ok [wg,i,y.1,0])) Q)->k4 [some (V.ref tb),some (V.int (p:Int)),some (V.ref a),some (oV al),some (V.int (wg:Int)),some (V.ref b),some (V.ref x),none] H2:=fun k'=>by
   walk_at "c4";walk_at "s5";refine⟨b,_,rfl,SqL.of (s2 _ _ hb),fun L nL=>?_⟩
   rw [cutV_tail];have s3:Same H2 (upd H2 L (.lst (rs.map V.ref).tail)):=Same.new nL
   have hL:upd H2 L (.lst (rs.map V.ref).tail) L=some (.lst (rs.tail.map V.ref)):=by rw [uS,List.map_tail]
   generalize hH3:upd H2 L (.lst (rs.map V.ref).tail)=H3 at s3 hL ⊢;have hw3:WordsAt H3 bw0 rs.tail:=hw.tail.mono fun c xs z=>s3 _ _ (s2 _ _ z)
   refine⟨tb,L,A,t,bw0,rs.tail,rfl,hT.same (s12.trans s3),hL,hw3,fun z dz H4 s4 nz hz=>?_⟩
   walk_at "c5";have s5:=(s12.trans s3).trans s4;walk_at "s6";cases hg:dB t bw0 with
   | error e =>
    rw [hg] at hz k';have hz':H4 z=some (.ins ad.cPlace dz (bQ (.int (e:Int)) .non .non)):=hz
    have ne:=goal_err hg;refine⟨_,_,_,hz',T.cl_Place,T.nf_Place_error,_,aW,rfl,?_⟩
    rw [if_pos (by intro z;have:=V.int.inj z;omega)]
    exact⟨_,_,_,hz',T.cl_Place,T.nf_Place_error,_,aW,e,rfl,k'.later s5⟩
   | ok y =>
    rw [hg] at hz k';obtain⟨j,sj⟩:=y;have hz':H4 z=some (.ins ad.cPlace dz (bQ (.int 0) (.int (j:Int)) (oV sj))):=hz
    have hx4:=s4 _ _ (s3 _ _ hx');refine⟨_,_,_,hz',T.cl_Place,T.nf_Place_error,_,aW,rfl,?_⟩
    rw [if_neg (by intro z;exact z rfl),e6]
    walk_at "rd";refine⟨_,_,_,hx4,T.cl_Place,T.nf_Place_province,_,bG,_,_,_,hz',T.cl_Place,T.nf_Place_province,_,bG,by show 4<=sizeLine;decide,fun oa noa=>?_⟩
    have s6:=Same.new (o:=.tup [V.int (wg:Int),V.int (i:Int),V.int (j:Int),V.int 0]) noa
    exact((k'.later s5).later s6).good (SqT.of uS)
  cases bw0 with
  | nil =>
   rw [if_pos (by rfl)]
   cases al with
   | none =>
    rw [if_neg (by intro z;exact z rfl)]
    exact next k
   | some n =>
    rw [if_pos (by intro z;cases z)]
    refine⟨_,_,_,hx',T.cl_Place,T.nf_Place_province,_,bG,by show 4<=sizeLine;decide,fun oa noa=>?_⟩
    have s6:=Same.new (o:=.tup [oV (some n),V.int (i:Int),V.int 0,V.int 0]) noa
    exact((k.later s12).later s6).good (SqT.of uS)
  | cons w1 bw1 =>
   rw [if_neg (by simp only [List.length_cons];omega),if_neg (by decide)]
   refine next ?_
   cases al <;> exact k
abbrev O_read_order:=DO "read_order" 8 ["table","p","words"] sp_read_order
theorem ok_read_order (F:Fun K "read_order" "read_order" st_read_order f fd)(T:Txt K mg ad)(D_wrong:O_wrong P w K mg base ad)(D_spelled:gM P w K mg base ad)(D_read_help:O_read_help P w K mg base ad)(D_read_move:O_read_move P w K mg base ad)(D_read_hold:O_read_hold P w K mg base ad):FnOk P w K mg base CX0 8 f fd ["table","p","words"] (sp_read_order K P w ad):=by
 refine F.ok sc_read_order (fun vs H Q E h=>?_) (fun _ A _ s H vs Q E hr h=>?_)
 ·obtain⟨tb,a,A,t,p,u,ws,qs,rfl,_⟩:=h;rfl
 ·obtain⟨tb,a,A,t,p,u,ws,qs,rfl,hT,hm,h1,h2,k⟩:=h;have hu64:=hr.units;obtain⟨hmem,hp⟩:=kY hm;have hl:ws.length=qs.length:=Paired.length h2
  refine⟨_,(sC (aB (tR aM (aR T.n_len (pC (pv 2) pN)) eJ (nMk _)) (sO (sR (eD D_wrong hr (pC (eG rfl T.g_MALFORMED) pN)))) sN)
   (sC (aB (tR (op_eqD hu64) (aN aP (pv 2) eJ (fun _ _=>rfl)) (eD D_spelled hr (pC cZ pN)) (nMk _)) (sO (sR (eD D_read_hold hr (pC (pv 1) (pC (cS iU (pv 2) (dL eJ) eX) pN))))) sN)
   (sC (aB (tR (op_eqD hu64) (aN aP (pv 2) eJ (fun _ _=>rfl)) (eD D_spelled hr (pC cZ pN)) (nMk _)) (sO (sR (eD D_read_move hr (pC (pv 0) (pC (pv 1) (pC (cS iU (pv 2) (dL eJ) eX) pN)))))) sN)
   (sC (aB (tR (op_eqD hu64) (aN aP (pv 2) eJ (fun _ _=>rfl)) (eD D_spelled hr (pC cZ pN)) (nMk _)) (sO (sR (eD D_read_help hr (pC (pv 0) (pC (pv 1) (pC (cS iU (pv 2) (dL eJ) eX) (pC (eG rfl T.g_SUPPORT) (pC (eG rfl T.g_SUPPORT_OF_MOVE) pN)))))))) sN)
   (sC (aB (tR (op_eqD hu64) (aN aP (pv 2) eJ (fun _ _=>rfl)) (eD D_spelled hr (pC cZ pN)) (nMk _)) (sO (sR (eD D_read_help hr (pC (pv 0) (pC (pv 1) (pC (cS iU (pv 2) (dL eJ) eX) (pC pe_non (pC (eG rfl T.g_CARRYING) pN)))))))) sN)
   (sO (sR (eD D_wrong hr (pC (eG rfl T.g_MALFORMED) pN))))))))),?_⟩
  walk_at "s1";refine⟨_,.inl (SqL.of h1),rfl,?_⟩
  rw [List.length_map,<-hl];cases ws with
  | nil =>
   rw [if_pos (by rfl)]
   exact⟨1,rfl,k⟩
  | cons c r =>
  rw [if_neg (by simp only [List.length_cons];omega),e1]
  clear e1 k1;have hr2:WordsAt H r qs.tail:=h2.tail
  obtain⟨q0,qr,rfl⟩:∃ q0 qr,qs=q0::qr:=by
   cases h2 with
   | cons g r=>exact⟨_,_,rfl⟩
  have hc0:H q0=some (.tup (bv c)):=by
   cases h2 with
   | cons g r=>exact g
  have cmd:=command_eq t u c r;rw [cmd] at k
  have tl:∀ {H1:Hp}{L:Addr},Same H H1->H1 L=none->Same H (upd H1 L (.lst (kC ((q0::qr).map V.ref) (some 1) none)))/\upd H1 L (.lst (kC ((q0::qr).map V.ref) (some 1) none)) L=some (.lst (qr.map V.ref))/\WordsAt (upd H1 L (.lst (kC ((q0::qr).map V.ref) (some 1) none))) r qr:=fun {H1 L} s1 nL=>by
   have s2:Same H (upd H1 L (.lst (kC ((q0::qr).map V.ref) (some 1) none))):=s1.upd (s1.free nL)
   refine⟨s2,?_,hr2.mono fun b xs z=>s2 _ _ z⟩
   rw [uS,cutV_tail];rfl
  walk_at "s2";refine⟨_,SqL.of h1,_,aV (j:=0) rfl,"holds",rfl,by decide,fun p1 H1 s1 n1 hp1=>?_⟩
  rw [cps_holds] at hp1;refine eq_bv (SqT.of (s1 _ _ hc0)) (SqT.of hp1) ⟨_,rfl,?_⟩
  by_cases c1:c=word "holds"
  ·rw [if_pos (by rw [decide_eq_true c1])]
   refine⟨a,_,rfl,SqL.of (s1 _ _ h1),fun L nL=>?_⟩
   obtain⟨s2,hL,hw⟩:=tl s1 nL;rw [if_pos c1] at k;refine⟨L,p,r,qr,rfl,hL,hw,?_⟩
   have:=k.later s2
   rw [<-hp];cases r <;> exact this
  rw [if_neg (by rw [decide_eq_false c1];decide),e2]
  clear e2 k2;rw [if_neg c1] at k;walk_at "s3";refine⟨_,SqL.of (s1 _ _ h1),_,aV (j:=0) rfl,"to",rfl,by decide,fun p2 H2 s2 n2 hp2=>?_⟩
  rw [cps_to] at hp2;have s12:=s1.trans s2;refine eq_bv (SqT.of (s12 _ _ hc0)) (SqT.of hp2) ⟨_,rfl,?_⟩
  by_cases c2:c=word "to"
  ·rw [if_pos (by rw [decide_eq_true c2])]
   refine⟨a,_,rfl,SqL.of (s12 _ _ h1),fun L nL=>?_⟩
   obtain⟨s3,hL,hw⟩:=tl s12 nL;rw [if_pos c2] at k;exact⟨tb,L,A,t,p,u,r,qr,rfl,hT.same s3,hm,hL,hw,k.later s3⟩
  rw [if_neg (by rw [decide_eq_false c2];decide),e3]
  clear e3 k3;rw [if_neg c2] at k;walk_at "s4";refine⟨_,SqL.of (s12 _ _ h1),_,aV (j:=0) rfl,"supports",rfl,by decide,fun p3 H3 s3 n3 hp3=>?_⟩
  rw [cps_supports] at hp3;have s13:=s12.trans s3;refine eq_bv (SqT.of (s13 _ _ hc0)) (SqT.of hp3) ⟨_,rfl,?_⟩
  by_cases c3:c=word "supports"
  ·rw [if_pos (by rw [decide_eq_true c3])]
   refine⟨a,_,rfl,SqL.of (s13 _ _ h1),fun L nL=>?_⟩
   obtain⟨s4,hL,hw⟩:=tl s13 nL;rw [if_pos c3,hp] at k;exact⟨tb,L,A,t,p,r,qr,some 2,3,rfl,hT.same s4,hL,hw,k.later s4⟩
  rw [if_neg (by rw [decide_eq_false c3];decide),e4]
  clear e4 k4;rw [if_neg c3] at k;walk_at "s5";refine⟨_,SqL.of (s13 _ _ h1),_,aV (j:=0) rfl,"carries",rfl,by decide,fun p4 H4 s4 n4 hp4=>?_⟩
  rw [cps_carries] at hp4;have s14:=s13.trans s4;refine eq_bv (SqT.of (s14 _ _ hc0)) (SqT.of hp4) ⟨_,rfl,?_⟩
  by_cases c4:c=word "carries"
  ·rw [if_pos (by rw [decide_eq_true c4])]
   refine⟨a,_,rfl,SqL.of (s14 _ _ h1),fun L nL=>?_⟩
   obtain⟨s5,hL,hw⟩:=tl s14 nL;rw [if_pos c4,hp] at k;exact⟨tb,L,A,t,p,r,qr,none,4,rfl,hT.same s5,hL,hw,k.later s5⟩
  rw [if_neg (by rw [decide_eq_false c4];decide),e5]
  rw [if_neg c4] at k;walk_at "rd";exact⟨1,rfl,k.later s14⟩
def lineO (t:Table)(pw:Nat)(ws:List Bytes):Except Nat (Nat×Vbsoaa.Order):=match Vbsoac.unitTold t.map ws with
 | .error e=>.error e
 | .ok (x,r)=>match manAt t.men x.2.1 with
  | none=>.error 5
  | some u =>
   if u.power≠pw then .error 5
   else if Vbsoac.fitsUnit u x=false then .error 6
   else match Vbsoac.command (boardOf t.map) t.map u r with
    | .error e=>.error e
    | .ok o=>.ok (u.prov,o)
def numsO:Except Nat (Nat×Vbsoaa.Order)->Except Nat (Nat×List Nat)
 | .error e=>.error e
 | .ok y=>.ok (y.1,orderNumbers y.2)
theorem numsO_nums (u:Man)(r:Except Nat Vbsoaa.Order):numsO (match r with
  | .error e=>.error e
  | .ok o=>.ok (u.prov,o))=nums u r:=by cases r <;> rfl
theorem lineO_eq (t:Table)(pw:Nat)(ws:List Bytes):numsO (lineO t pw ws)=(match bE t (cJ ws) with
  | .error e=>.error e
  | .ok y=>if errU t pw (kF ws) y≠0 then .error (errU t pw (kF ws) y) else match manAt t.men y.1 with
   | none=>.error 5
   | some u=>nums u (Vbsoac.command (boardOf t.map) t.map u (cJ ws).tail)):=by
 unfold lineO;rw [unitTold_eq];cases bE t (cJ ws) with
 | error e=>rfl
 | ok y =>
  dsimp only;unfold errU;cases manAt t.men y.1 with
  | none=>rfl
  | some u =>
   dsimp only;by_cases c1:u.power=pw
   ·by_cases c2:Vbsoac.fitsUnit u (kF ws,y)=false
    ·simp [c1,c2,numsO]
    ·simp only [c1,c2,ne_eq,not_true_eq_false,if_false];exact numsO_nums u _
   ·simp [c1,numsO]
def sp_read_line:SP:=fun K P w ad vs H Q _=>∃ (tb a:Addr)(A:TAd)(t:Table)(pw:Nat)(ws:List Bytes)(qs:List Addr),vs=[.ref tb,.int pw,.ref a]/\TabAt K P w ad H tb A t/\H a=some (.lst (qs.map V.ref))/\WordsAt H ws qs/\GivesRd K ad H (numsO (lineO t pw ws)) Q
def quietW:List Bytes->Bool
 | []=>true
 | w::_=>w.head?==some 35
theorem silent_eq (l:Bytes):Vbsoab.silent l=quietW (Vbsoab.wordsOf l):=by
 unfold Vbsoab.silent;cases Vbsoab.wordsOf l <;> rfl
def sp_says_nothing:SP:=fun K P w ad vs H Q _=>∃ (a:Addr)(ws:List Bytes)(qs:List Addr),vs=[.ref a]/\H a=some (.lst (qs.map V.ref))/\WordsAt H ws qs/\(∀ x∈ws,x≠[])/\Q (.bl (quietW ws)) H
abbrev O_read_line:=DO "read_line" 9 ["table","power","words"] sp_read_line
theorem ok_read_line (F:Fun K "read_line" "read_line" st_read_line f fd)(T:Txt K mg ad)(D_read_order:O_read_order P w K mg base ad)(D_wrong:O_wrong P w K mg base ad)(D_error_of_unit:O_error_of_unit P w K mg base ad)(D_unit_word_of:O_unit_word_of P w K mg base ad)(D_read_first_place:dN P w K mg base ad)(D_behind_unit_word:gF P w K mg base ad):FnOk P w K mg base CX0 9 f fd ["table","power","words"] (sp_read_line K P w ad):=by
 refine F.ok sc_read_line (fun vs H Q E h=>?_) (fun _ A _ s H vs Q E hr h=>?_)
 ·obtain⟨tb,a,A,t,pw,ws,qs,rfl,_⟩:=h;rfl
 ·obtain⟨tb,a,A,t,pw,ws,qs,rfl,hT,h1,h2,k⟩:=h;rw [lineO_eq] at k
  refine⟨_,(sC (aD (i:=3) sc_read_line.nd rfl (Or.inl rfl) (eD D_behind_unit_word hr (pC (pv 2) pN)))
   (sC (aD (i:=4) sc_read_line.nd rfl (Or.inl rfl) (eD D_read_first_place hr (pC (pv 0) (pC (pv 3) pN))))
   (sC (aB (tR op_ne (eF (pv 4) rfl) eJ (nMk _)) (sO (sR (eD D_wrong hr (pC (eF (pv 4) rfl) pN)))) sN)
   (sC (aD (i:=5) sc_read_line.nd rfl (Or.inl rfl) (eD D_error_of_unit hr (pC (pv 0) (pC (pv 1) (pC (eD D_unit_word_of hr (pC (pv 2) pN)) (pC (pv 4) pN))))))
   (sC (aB (tR op_ne (pv 5) eJ (nMk _)) (sO (sR (eD D_wrong hr (pC (pv 5) pN)))) sN)
   (sO (sR (eD D_read_order hr (pC (pv 0) (pC (eF (pv 4) rfl) (pC (cS iU (pv 3) (dL eJ) eX) pN))))))))))),?_⟩
  walk_at "s1";refine⟨a,ws,qs,rfl,h1,h2,fun b rs H1 s1 hb hw=>?_⟩
  walk_at "c1";walk_at "s2";refine⟨tb,b,A,t,cJ ws,rs,rfl,hT.same s1,hb,hw,fun x dx H2 s2 nx hx=>?_⟩
  walk_at "c2";have s12:=s1.trans s2;walk_at "s3";cases hf:bE t (cJ ws) with
  | error e =>
   rw [hf] at hx k;have hx':H2 x=some (.ins ad.cPlace dx (bQ (.int (e:Int)) .non .non)):=hx
   have ne:=first_err hf;refine⟨_,_,_,hx',T.cl_Place,T.nf_Place_error,_,aW,rfl,?_⟩
   rw [if_pos (by intro z;have:=V.int.inj z;omega)]
   exact⟨_,_,_,hx',T.cl_Place,T.nf_Place_error,_,aW,e,rfl,k.later s12⟩
  | ok y =>
  rw [hf] at hx k;dsimp only at k;have hx':H2 x=some (.ins ad.cPlace dx (bQ (.int 0) (.int (y.1:Int)) (oV y.2))):=hx
  refine⟨_,_,_,hx',T.cl_Place,T.nf_Place_error,_,aW,rfl,?_⟩
  rw [if_neg (by intro z;exact z rfl),e3]
  clear e3 k3;walk_at "s4";refine⟨a,ws,qs,rfl,s12 _ _ h1,h2.mono fun c xs z=>s12 _ _ z,fun H3 s3=>?_⟩
  have s13:=s12.trans s3;refine⟨tb,x,dx,A,t,pw,kF ws,y,rfl,hT.same s13,s3 _ _ hx,?_⟩
  walk_at "c4";walk_at "s5";refine⟨rfl,?_⟩
  by_cases c:errU t pw (kF ws) y≠0
  ·rw [if_pos (by omega)];rw [if_pos c] at k;exact⟨_,rfl,k.later s13⟩
  rw [if_neg (by omega),e5];rw [if_neg c] at k;walk_at "rd";cases hm:manAt t.men y.1 with
  | none =>
   have e5:errU t pw (kF ws) y=5:=by
    unfold errU;rw [hm]
   exact absurd (by rw [e5];decide) c
  | some u =>
   rw [hm] at k;refine⟨_,_,_,(s3 _ _ hx'),T.cl_Place,T.nf_Place_province,_,bG,b,_,rfl,SqL.of (s3 _ _ (s2 _ _ hb)),fun L nL=>?_⟩
   rw [cutV_tail];have s4:Same H3 (upd H3 L (.lst (rs.map V.ref).tail)):=Same.new nL
   exact⟨tb,L,A,t,y.1,u,(cJ ws).tail,rs.tail,rfl,hT.same (s13.trans s4),hm,by rw [uS,List.map_tail],hw.tail.mono fun c xs z=>s4 _ _ (s3 _ _ (s2 _ _ z)),k.later (s13.trans s4)⟩
abbrev O_says_nothing:=DO "says_nothing" 1 ["words"] sp_says_nothing
theorem ok_says_nothing (F:Fun K "says_nothing" "says_nothing" jK f fd)(T:Txt K mg ad) :FnOk P w K mg base CX0 1 f fd ["words"] (sp_says_nothing K P w ad):=by
 refine F.ok sc_says_nothing (fun vs H Q E h=>?_) (fun _ A _ s H vs Q E hr h=>?_)
 ·obtain⟨a,ws,qs,rfl,_⟩:=h;rfl
 ·obtain⟨a,ws,qs,rfl,h1,h2,hne,k⟩:=h;refine⟨_,(sO (sR (pe_or (eB aM (aR T.n_len (pC (pv 0) pN)) eJ (nMk _)) (jO (eB aM (aN cI (aN aP (pv 0) eJ (fun _ _=>rfl)) eJ (fun _ _=>rfl)) (eG rfl T.g_REMARK) (nMk _)))))),?_⟩
  walk_at "rd";refine⟨_,.inl (SqL.of h1),rfl,?_⟩
  cases h2 with
  | nil =>
   rw [if_pos (by rfl)]
   exact k
  | cons g r =>
   rename_i x q xs qs
   rw [if_neg (by simp only [List.map_cons,List.length_cons];omega)]
   cases x with
   | nil=>exact absurd rfl (hne [] List.mem_cons_self)
   | cons b l =>
    refine⟨_,SqL.of h1,_,aV (j:=0) rfl,_,rfl,_,SqT.of g,_,aV (j:=0) rfl,rfl,?_⟩
    have e:decide (V.int (b:Int)=V.int 35)=((b::l).head?==some 35):=by
     refine Bool.eq_iff_iff.mpr ?_
     rw [decide_eq_true_eq,V.int.injEq];simp
     omega
    rw [e];exact k
section
open Vbsoab Vbsoac
open Vbsoaa (Man Men Order place linked manAt)
theorem shoresOf_pos (m:Map)(i:Nat):0 < shoresOf m i:=by unfold shoresOf;omega
theorem target_err {b:Vbsoaa.Board}{m:Map}{u:Man}{x:Nat×Option Nat}{e:Nat}(h:target b m u x=.error e):e≠0:=by
 unfold target at h;split at h
 ·split at h
  ·cases h;decide
  ·cases h
 ·split at h
  ·cases h
  ·split at h
   ·cases h
   ·split at h
    ·cases h
    ·cases h
    ·cases h;decide
theorem target_ok {t:Table}{u:Man}{x:Nat×Option Nat}{s:Nat}(hx:∀ s,x.2=some s->s < (provAt t.map x.1).shores.length)(h:target (boardOf t.map) t.map u x=.ok s):if u.fleet=true then s < shoresOf t.map x.1 else s=0:=by
 unfold target at h;by_cases c:u.fleet=false
 ·rw [if_pos c] at h;rw [c,if_neg (by decide)];split at h
  ·cases h
  ·cases h;rfl
 ·have c':u.fleet=true:=by simpa using c
  rw [if_neg c] at h;rw [if_pos c'];split at h
  ·rename_i s' e
   cases h;have:=hx s e
   unfold shoresOf;omega
  ·split at h
   ·cases h;exact shoresOf_pos _ _
   ·split at h
    ·cases h;exact shoresOf_pos _ _
    ·rename_i s' e
     cases h;have:s∈landings (boardOf t.map) t.map u x.1:=by rw [e];exact List.mem_cons_self
     unfold landings at this;exact List.mem_range.mp (List.mem_filter.mp this).1
    ·cases h
theorem move_err {t:Table}{u:Man}{ws:List Bytes}{e:Nat}(h:jC t u ws=.error e):e≠0:=by
 unfold jC at h;split at h
 ·cases h;decide
 ·split at h
  ·rename_i e' he
   cases h;exact told_err he
  ·split at h
   ·cases h;decide
   ·split at h
    ·rename_i e' he
     cases h;exact target_err he
    ·cases h
theorem move_ok {t:Table}{u:Man}{ws:List Bytes}{o:Order}(h:jC t u ws=.ok o):OrdOk t u.fleet o:=by
 unfold jC at h;split at h
 ·cases h
 ·split at h
  ·cases h
  ·rename_i x hx
   obtain⟨hx1,hx2⟩:=told_lt hx;split at h
   ·cases h
   ·split at h
    ·cases h
    ·rename_i s hs
     cases h;exact⟨hx1,target_ok hx2 hs⟩
theorem unitTold_err {t:Table}{ws:List Bytes}{e:Nat}(h:unitTold t.map ws=.error e):e≠0:=by
 rw [unitTold_eq] at h;split at h
 ·rename_i e' he
  cases h;exact first_err he
 ·cases h
theorem unitTold_lt {t:Table}{ws r:List Bytes}{x:Option Bool×(Nat×Option Nat)}(h:unitTold t.map ws=.ok (x,r)):x.2.1 < aF t:=by
 rw [unitTold_eq] at h;split at h
 ·cases h
 ·rename_i y he
  cases h;exact(first_lt he).1
theorem command_err {t:Table}{u:Man}{ws:List Bytes}{e:Nat}(h:command (boardOf t.map) t.map u ws=.error e):e≠0:=by
 cases ws with
 | nil=>cases h;decide
 | cons c r =>
  have:=command_eq t u c r
  rw [h] at this;unfold nums at this;dsimp only at this;split at this
  ·split at this
   ·cases this
   ·cases this;decide
  ·split at this
   ·cases z:jC t u r with
    | error e' =>
     rw [z] at this;cases this;exact move_err z
    | ok o=>rw [z] at this;cases this
   ·have help:∀ al wg,(Except.error e:Except Nat (Nat×List Nat))=withP u.prov (jE t al wg r)->e≠0:=by
     intro al wg hh;unfold jE at hh;cases z:bE t (cJ r) with
     | error e' =>
      rw [z] at hh;cases hh;exact first_err z
     | ok x =>
      rw [z] at hh;dsimp only at hh;split at hh
      ·cases hh
      ·cases z2:dB t (cJ r).tail with
       | error e' =>
        rw [z2] at hh;cases hh;exact goal_err z2
       | ok y=>rw [z2] at hh;cases hh
    split at this
    ·exact help _ _ this
    ·split at this
     ·exact help _ _ this
     ·cases this;decide
theorem command_ok {t:Table}{u:Man}{ws:List Bytes}{o:Order}(h:command (boardOf t.map) t.map u ws=.ok o):OrdOk t u.fleet o:=by
 unfold command at h;split at h
 ·cases h
 ·split at h
  ·split at h
   ·cases h;trivial
   ·cases h
  ·split at h
   ·have hm:=@move_ok t u;split at h
    ·cases h
    ·rename_i w r
     exact hm (ws:=w::r) h
   ·split at h
    ·split at h
     ·cases h
     ·rename_i x r hx
      have hx1:=unitTold_lt hx;split at h
      ·cases h;exact hx1
      ·split at h
       ·split at h
        ·cases h
        ·rename_i y hy
         cases h;exact⟨hx1,(told_lt hy).1⟩
       ·cases h
      ·cases h
    ·split at h
     ·split at h
      ·cases h
      ·rename_i x r hx
       have hx1:=unitTold_lt hx;split at h
       ·split at h
        ·split at h
         ·cases h
         ·rename_i y hy
          cases h;exact⟨hx1,(told_lt hy).1⟩
        ·cases h
       ·cases h
     ·cases h
theorem lineO_err {t:Table}{pw:Nat}{ws:List Bytes}{e:Nat}(h:lineO t pw ws=.error e):e≠0:=by
 unfold lineO at h;split at h
 ·rename_i e' he
  cases h;exact unitTold_err he
 ·split at h
  ·cases h;decide
  ·split at h
   ·cases h;decide
   ·split at h
    ·cases h;decide
    ·split at h
     ·rename_i e' he
      cases h;exact command_err he
     ·cases h
def GivenOk (t:Table)(pw:Nat)(y:Nat×Order):Prop:=∃ u,manAt t.men y.1=some u/\u.power=pw/\OrdOk t u.fleet y.2
theorem lineO_ok {t:Table}{pw:Nat}{ws:List Bytes}{y:Nat×Order}(h:lineO t pw ws=.ok y):GivenOk t pw y:=by
 unfold lineO at h;split at h
 ·cases h
 ·split at h
  ·cases h
  ·rename_i u hu
   split at h
   ·cases h
   ·rename_i hp
    split at h
    ·cases h
    ·split at h
     ·cases h
     ·rename_i o ho
      cases h;have hp':=(kY hu).2;refine⟨u,?_,by simpa using hp,command_ok ho⟩
      show manAt t.men u.prov=some u
      rw [hp'];exact hu
theorem lineOrder_eq (t:Table)(pw:Nat)(l:Bytes):lineOrder t pw l=if l.all plainByte=false then .error 1 else if silent l=true then .ok none else(match lineO t pw (wordsOf l) with
  | .error e=>.error e
  | .ok o=>.ok (some o)):=by
 unfold lineOrder lineO;split
 ·rfl
 ·split
  ·rfl
  ·cases unitTold t.map (wordsOf l) with
   | error e=>rfl
   | ok z =>
    obtain⟨x,r⟩:=z;dsimp only;cases manAt t.men x.2.1 with
    | none=>rfl
    | some u =>
     dsimp only;split
     ·rfl
     ·split
      ·rfl
      ·cases command (boardOf t.map) t.map u r <;> rfl
def rstep (t:Table)(pw n:Nat)(l:Bytes)(x:Vbsoac.Reading):Vbsoac.Reading:=match lineOrder t pw l with
 | .error e=>{x with wrong:=x.wrong++[(n,e)]}
 | .ok none=>x
 | .ok (some o)=>if (x.orders.any fun y=>y.1==o.1)=true then {x with wrong:=x.wrong++[(n,7)]} else {x with orders:=x.orders++[o]}
theorem readLines_snoc (t:Table)(pw:Nat)(l:Bytes):∀ (ls:List Bytes)(n:Nat)(x:Vbsoac.Reading),readLines t pw n (ls++[l]) x=rstep t pw (n+ls.length) l (readLines t pw n ls x)
 | [],n,x=>rfl
 | a::ls,n,x=>by
  show readLines t pw (n+1) (ls++[l]) (rstep t pw n a x)=_
  rw [readLines_snoc t pw l ls (n+1)];show rstep t pw (n+1+ls.length) l _=rstep t pw (n+(ls.length+1)) l _
  rw [show n+1+ls.length=n+(ls.length+1) by omega]
  rfl
def iH (t:Table)(pw:Nat)(l:Bytes)(os:List (Nat×Order)):Nat×List (Nat×Order):=match lineOrder t pw l with
 | .error e=>(e,os)
 | .ok none=>(0,os)
 | .ok (some o)=>if (os.any fun y=>y.1==o.1)=true then(7,os) else(0,os++[o])
theorem lineOrder_err {t:Table}{pw:Nat}{l:Bytes}{e:Nat}(h:lineOrder t pw l=.error e):e≠0:=by
 rw [lineOrder_eq] at h;split at h
 ·cases h;decide
 ·split at h
  ·cases h
  ·split at h
   ·rename_i e' he
    cases h;exact lineO_err he
   ·cases h
theorem rstep_eq (t:Table)(pw n:Nat)(l:Bytes)(x:Vbsoac.Reading):rstep t pw n l x=if (iH t pw l x.orders).1≠0 then {x with wrong:=x.wrong++[(n,(iH t pw l x.orders).1)]} else {x with orders:=(iH t pw l x.orders).2}:=by
 unfold rstep iH;cases e:lineOrder t pw l with
 | error e' =>
  have:=lineOrder_err e
  simp [this]
 | ok o =>
  cases o with
  | none=>simp
  | some o =>
   dsimp only;split <;> simp
theorem lstep_bad {t:Table}{pw:Nat}{l:Bytes}{os:List (Nat×Order)}(h:(iH t pw l os).1≠0):(iH t pw l os).2=os:=by
 unfold iH at h ⊢;split
 ·rfl
 ·rfl
 ·split
  ·rfl
  ·rename_i e c
   rw [e] at h;dsimp only at h;rw [if_neg c] at h;exact absurd rfl h
theorem lstep_ok {t:Table}{pw:Nat}{l:Bytes}{os:List (Nat×Order)}(h:∀ y∈os,GivenOk t pw y):∀ y∈(iH t pw l os).2,GivenOk t pw y:=by
 unfold iH;cases e:lineOrder t pw l with
 | error e'=>exact h
 | ok o =>
  cases o with
  | none=>exact h
  | some o =>
   dsimp only;split
   ·exact h
   ·intro y hy;rcases List.mem_append.mp hy with hy | hy
    ·exact h y hy
    ·rw [List.mem_singleton.mp hy];rw [lineOrder_eq] at e;split at e
     ·cases e
     ·split at e
      ·cases e
      ·split at e
       ·cases e
       ·rename_i o' ho
        cases e;exact lineO_ok ho
theorem lstep_len (t:Table)(pw:Nat)(l:Bytes)(os:List (Nat×Order)):(iH t pw l os).2.length<=os.length+1:=by
 unfold iH;split
 ·exact Nat.le_succ _
 ·exact Nat.le_succ _
 ·split
  ·exact Nat.le_succ _
  ·simp
theorem given_wf {t:Table}(wf:WF t){pw:Nat}{os:List (Nat×Order)}(h:∀ y∈os,GivenOk t pw y):WF (given t pw os):=by
 unfold given;refine wf_men wf ?_ ?_ ?_
 ·rw [List.length_map];exact wf.men
 ·rw [List.pairwise_map];refine wf.sorted.imp fun {a b} hab=>?_
  have e:∀ m:Man,(if m.power=pw then {m with order:=orderOf os m.prov} else m).prov=m.prov:=fun m=>by split <;> rfl
  rw [e,e];exact hab
 ·intro m hm;obtain⟨m0,hm0,rfl⟩:=List.mem_map.mp hm;have ok:=wf.man m0 hm0;split
  ·refine⟨ok.prov,ok.shore,ok.army,?_⟩
   show OrdOk t m0.fleet (orderOf os m0.prov)
   unfold orderOf;split
   ·rename_i y hy
    obtain⟨u,hu,_,ho⟩:=h y (List.mem_of_find?_eq_some hy);have hp:y.1=m0.prov:=by simpa using List.find?_some hy
    rw [hp,hW wf.sorted hm0] at hu;rw [Option.some.inj hu];exact ho
   ·trivial
  ·exact ok
end
abbrev Ords:=List (Nat×Vbsoaa.Order)
def ToldAt (K:W.Frag)(H:Hp)(d:Addr)(os:Ords):Prop:=∃ kvs,H d=some (.dK kvs)/\Paired (fun(y:Nat×Vbsoaa.Order)(kv:Key×V)=>kv.1=Sum.inl ((y.1:Nat):Int)/\∃ oa,kv.2=.ref oa/\SqT K H oa (bv (orderNumbers y.2))) os kvs
def KeepD (d:Addr)(H H':Hp):Prop:=∀ b o,H b=some o->b≠d->H' b=some o
theorem KeepD.trans {d:Addr}{H H1 H2:Hp}(a:KeepD d H H1)(b:KeepD d H1 H2):KeepD d H H2:=fun c o h z=>b c o (a c o h z) z
theorem Same.keepD {H H':Hp}(s:Same H H')(d:Addr):KeepD d H H':=fun b o h _=>s b o h
theorem ToldAt.mono {H H':Hp}{d:Addr}{os:Ords}(h:ToldAt K H d os)(s:Same H H'):ToldAt K H' d os:=by
 obtain⟨kvs,h1,h2⟩:=h;exact⟨kvs,s _ _ h1,Paired.mapP h2 fun _ _ z=>⟨z.1,z.2.choose,z.2.choose_spec.1,s.tup z.2.choose_spec.2⟩⟩
theorem sqt_keepD {H H':Hp}{d a:Addr}{xs:List V}{kvs:List (Key×V)}(hd:H d=some (.dK kvs))(k:KeepD d H H')(h:SqT K H a xs):SqT K H' a xs:=by
 rcases h with (h | ⟨o,h⟩) | h
 ·exact .inl (.inl (k _ _ h (bB h hd (fun e=>nomatch e))))
 ·exact .inl (.inr ⟨o,k _ _ h (bB h hd (fun e=>nomatch e))⟩)
 ·exact .inr h
def sp_take_line:SP:=fun K P w ad vs H Q _=>∃ (tb a d:Addr)(A:TAd)(t:Table)(pw:Nat)(l:Bytes)(os:Ords),vs=[.ref tb,.int pw,.ref a,.ref d]/\TabAt K P w ad H tb A t/\H a=some (.tup (bv l))/\l.length<=3000/\ToldAt K H d os/\os.length<=3000 /\
 ∀ H',KeepD d H H'->ToldAt K H' d (iH t pw l os).2->Q (.int ((iH t pw l os).1:Nat)) H'
theorem told_val:∀ {os:Ords}{kvs:List (Key×V)},Paired (fun(y:Nat×Vbsoaa.Order)(kv:Key×V)=>kv.1=Sum.inl ((y.1:Nat):Int)/\∃ oa,kv.2=.ref oa/\SqT K H oa (bv (orderNumbers y.2))) os kvs->∀ p:Nat,(cF kvs (Sum.inl (p:Int))).isSome=os.any (fun y=>y.1==p)
 | _,_,.nil,p=>rfl
 | _,_,.cons (a:=y) (b:=kv) h t,p=>by
  rw [List.any_cons];by_cases c:y.1=p
  ·rw [iW (by rw [h.1,c])]
   simp [c]
  ·rw [gN (by rw [h.1];intro e;have:=Sum.inl.inj e;omega),told_val t p]
   simp [c]
abbrev O_take_line:=DO "take_line" 10 ["table","power","line","told"] sp_take_line
theorem ok_take_line (F:Fun K "take_line" "take_line" st_take_line f fd)(T:Txt K mg ad)(D_read_line:O_read_line P w K mg base ad)(D_says_nothing:O_says_nothing P w K mg base ad)(D_words_of:O_words_of P w K mg base ad)(D_is_printable:O_is_printable P w K mg base ad):FnOk P w K mg base CX0 10 f fd ["table","power","line","told"] (sp_take_line K P w ad):=by
 refine F.ok sc_take_line (fun vs H Q E h=>?_) (fun _ A _ s H vs Q E hr h=>?_)
 ·obtain⟨tb,a,d,A,t,pw,l,os,rfl,_⟩:=h;rfl
 ·obtain⟨tb,a,d,A,t,pw,l,os,rfl,hT,h1,hl,hd,ho,k⟩:=h;have hu:=iI hr
  refine⟨_,(sC (aB (gB (aX (eD D_is_printable hr (pC (pv 2) pN)))) (sO (sR (eG rfl T.g_MALFORMED))) sN)
   (sC (aD (i:=4) sc_take_line.nd rfl (Or.inl rfl) (eD D_words_of hr (pC (pv 2) pN)))
   (sC (aB (aX (eD D_says_nothing hr (pC (pv 4) pN))) (sO (sR eJ)) sN)
   (sC (aD (i:=5) sc_take_line.nd rfl (Or.inl rfl) (eD D_read_line hr (pC (pv 0) (pC (pv 1) (pC (pv 4) pN)))))
   (sC (aB (tR op_ne (eF (pv 5) rfl) eJ (nMk _)) (sO (sR (eF (pv 5) rfl))) sN)
   (sC (aB (hE (pc_din hu (eF (pv 5) rfl) (pv 3))) (sO (sR (eG rfl T.g_TOLD_TWICE))) sN)
   (sC (ps_dput hu (pv 3) (eF (pv 5) rfl) (eF (pv 5) rfl) rfl)
   (sO (sR eJ))))))))),?_⟩
  have eo:=lineOrder_eq t pw l;walk_at "s1";refine⟨a,l,rfl,SqT.of h1,Nat.le_trans hl (by decide),fun H1 s1=>⟨_,rfl,?_⟩⟩
  cases c1:l.all Vbsoab.plainByte with
  | false =>
   rw [if_pos rfl];rw [if_pos c1] at eo;unfold iH at k;rw [eo] at k;exact k H1 (Same.keepD s1 d) (hd.mono s1)
  | true =>
  rw [if_neg (by decide),e1];clear e1 k1;rw [if_neg (by rw [c1];decide)] at eo
  walk_at "s2";refine⟨a,l,rfl,.inr (SqT.of (s1 _ _ h1)),Nat.lt_of_le_of_lt hl (by decide),fun D qs H2 s2 nD hD hw=>?_⟩
  walk_at "c2";have s12:=s1.trans s2;walk_at "s3";refine⟨D,Vbsoab.wordsOf l,qs,rfl,hD,hw,fun x hx=>(words_each l x hx).1,_,rfl,?_⟩
  rw [<-silent_eq];cases c2:Vbsoab.silent l with
  | true =>
   rw [if_pos rfl];rw [if_pos c2] at eo;unfold iH at k;rw [eo] at k;exact k H2 (Same.keepD s12 d) (hd.mono s12)
  | false =>
  rw [if_neg (by decide),e3];clear e3 k3;rw [if_neg (by rw [c2];decide)] at eo
  walk_at "s4";refine⟨tb,D,A,t,pw,Vbsoab.wordsOf l,qs,rfl,hT.same s12,hD,hw,fun x H3 s3 nx hx=>?_⟩
  walk_at "c4";have s13:=s12.trans s3;walk_at "s5";cases hL:lineO t pw (Vbsoab.wordsOf l) with
  | error e =>
   rw [hL] at hx eo;obtain⟨dx,hx'⟩:=hx;have ne:=lineO_err hL;refine⟨_,_,_,hx',T.cl_Reading,T.nf_Reading_error,_,jP,rfl,?_⟩
   rw [if_pos (by intro z;have:=V.int.inj z;omega)]
   refine⟨_,_,_,hx',T.cl_Reading,T.nf_Reading_error,_,jP,?_⟩
   unfold iH at k;rw [eo] at k;exact k H3 (Same.keepD s13 d) (hd.mono s13)
  | ok y =>
  rw [hL] at hx eo;obtain⟨dx,oa,hx',hoa⟩:=hx;replace hx':H3 x=some (.ins ad.cReading dx (cQ (.int 0) (.int (y.1:Int)) (.ref oa))):=hx'
  refine⟨_,_,_,hx',T.cl_Reading,T.nf_Reading_error,_,jP,rfl,?_⟩
  rw [if_neg (by intro z;exact z rfl),e5]
  clear e5 k5;have hd3:=hd.mono s13;obtain⟨kvs,g1,g2⟩:=id hd3;have kl:kvs.length=os.length:=(Paired.length g2).symm
  walk_at "s6";refine⟨_,_,_,hx',T.cl_Reading,T.nf_Reading_province,_,kZ,_,DGet.k (k:=Sum.inl (y.1:Int)) g1,?_⟩
  have tv:=told_val g2 y.1;rw [tv];unfold iH at k;rw [eo] at k;dsimp only at k;cases c3:(os.any fun z=>z.1==y.1) with
  | true =>
   rw [if_pos rfl];rw [if_pos c3] at k;exact k H3 (Same.keepD s13 d) hd3
  | false =>
  rw [if_neg (by decide),e6];rw [if_neg (by rw [c3];decide)] at k
  walk_at "rd"
  have nov:cF kvs (Sum.inl (y.1:Int))=none:=by
   rw [c3] at tv;cases z:cF kvs (Sum.inl (y.1:Int)) with
   | none=>rfl
   | some v=>rw [z] at tv;cases tv
  refine⟨_,_,_,hx',T.cl_Reading,T.nf_Reading_order,_,f_Reading_order,_,_,_,hx',T.cl_Reading,T.nf_Reading_province,_,kZ,_,DPut.k (k:=Sum.inl (y.1:Int)) g1 (by rw [kl];exact Nat.lt_of_le_of_lt ho (by decide)),?_⟩
  rw [putK_new _ nov]
  have kd:KeepD d H3 (upd H3 d (.dK (kvs++[(Sum.inl (y.1:Int),V.ref oa)]))):=fun b o hb hne=>by
   rw [uN hne];exact hb
  refine k _ ((Same.keepD s13 d).trans kd) ⟨_,uS,?_⟩
  refine Paired.snoc ⟨rfl,oa,rfl,sqt_keepD g1 kd hoa⟩ (Paired.mapP g2 fun _ _ z=>⟨z.1,z.2.choose,z.2.choose_spec.1,sqt_keepD g1 kd z.2.choose_spec.2⟩)
def WrongAt (H:Hp)(a:Addr)(wr:List (Nat×Nat)):Prop:=∃ qs:List Addr,H a=some (.lst (qs.map V.ref))/\Paired (fun(e:Nat×Nat)(q:Addr)=>H q=some (.tup [.int (e.1:Int),.int (e.2:Int)])) wr qs
def jR:SP:=fun K P w ad vs H Q _=>∃ (a:Addr)(wr:List (Nat×Nat)),vs=[.ref a]/\WrongAt H a wr /\
 ∀ D H',Same H H'->H D=none->H' D=some (.lst (bv (1::(wr.take 20).length::(wr.take 20).flatMap fun e=>[e.1,e.2])))->Q (.ref D) H'
theorem Paired.take {α β:Type}{G:α->β->Prop}:∀ (n:Nat){l:List α}{m:List β},Paired G l m->Paired G (l.take n) (m.take n)
 | 0,_,_,_=>.nil
 | _+1,_,_,.nil=>.nil
 | n+1,_,_,.cons a t=>.cons a (Paired.take n t)
theorem flat_snoc (l:List (Nat×Nat))(e:Nat×Nat):(l++[e]).flatMap (fun e=>[e.1,e.2])=l.flatMap (fun e=>[e.1,e.2])++[e.1,e.2]:=by simp
theorem flat_len (l:List (Nat×Nat)):(l.flatMap fun e=>[e.1,e.2]).length=2*l.length:=by
 induction l with
 | nil=>rfl
 | cons e l ih =>
  rw [List.flatMap_cons,List.length_append,ih];simp only [List.length_cons,List.length_nil];omega
theorem cutV_take20 (xs:List V):kC xs none (some 20)=xs.take 20:=by
 unfold kC;rw [HT.sIx_none,show(some (20:Int))=some ((20:Nat):Int) from rfl,HT.sIx_nat,List.drop_zero,Nat.sub_zero]
 by_cases h:20<=xs.length
 ·rw [Nat.min_eq_left h]
 ·rw [Nat.min_eq_right (by omega),List.take_length,List.take_of_length_le (by omega)]
theorem nodup_inj {α β:Type}{f:α->β}:∀ {l:List α},(l.map f).Nodup->∀ {x y:α},x∈l->y∈l->f x=f y->x=y
 | [],_,x,y,hx,_,_=>nomatch hx
 | a::l,h,x,y,hx,hy,e=>by
  rw [List.map_cons,List.nodup_cons] at h;rcases List.mem_cons.mp hx with e1 | hx'
  ·rcases List.mem_cons.mp hy with e2 | hy'
   ·rw [e1,e2]
   ·exact absurd (List.mem_map.mpr ⟨y,hy',by rw [<-e,e1]⟩) h.1
  ·rcases List.mem_cons.mp hy with e2 | hy'
   ·exact absurd (List.mem_map.mpr ⟨x,hx',by rw [e,e2]⟩) h.1
   ·exact nodup_inj h.2 hx' hy' e
abbrev O_tell_wrong_lines:=DO "tell_wrong_lines" 1 ["wrong_lines"] jR
theorem ok_tell_wrong_lines (F:Fun K "tell_wrong_lines" "tell_wrong_lines" fC f fd)(T:Txt K mg ad) :FnOk P w K mg base CX0 1 f fd ["wrong_lines"] (jR K P w ad):=by
 refine F.ok sc_tell_wrong_lines (fun vs H Q E h=>?_) (fun _ A _ s H vs Q E hr h=>?_)
 ·obtain⟨a,wr,rfl,_⟩:=h;rfl
 ·obtain⟨a,wr,rfl,⟨qs,h1,h2⟩,k⟩:=h
  refine⟨_,(sC (aD (i:=1) sc_tell_wrong_lines.nd rfl (Or.inl rfl) (cS iU (pv 0) eX (dL (eG rfl T.g_MOST_WRONG_LINES))))
   (sC (aD (i:=2) sc_tell_wrong_lines.nd rfl (Or.inl rfl) (aT (pC eJ (pC (aR T.n_len (pC (pv 1) pN)) pN))))
   (sC (ps_for PassesOwn.never rfl (jX (pv 1)) (pg_tup2K (K:=K) (i:=3) (j:=4) rfl rfl sc_tell_wrong_lines.nd rfl (Or.inl rfl) rfl (Or.inl rfl)) (sC (bZ (jA PySem.F.plainAttrs_list PySem.F.slot_list_append PySem.F.type_list_append dA (pv 2) (pC (pv 3) pN)))
   (sO (bZ (jA PySem.F.plainAttrs_list PySem.F.slot_list_append PySem.F.type_list_append dA (pv 2) (pC (pv 4) pN))))))
   (sO (sR (pv 2)))))),?_⟩
  have h3:=Paired.take 20 h2;have hl:(wr.take 20).length=(qs.take 20).length:=Paired.length h3
  have hl20:(wr.take 20).length<=20:=by rw [List.length_take];omega
  walk_at "s1";refine⟨a,_,rfl,SqL.of h1,fun b hb=>?_⟩
  rw [cutV_take20,<-List.map_take];have s1:Same H (upd H b (.lst ((qs.take 20).map V.ref))):=Same.new hb
  have hb1:upd H b (.lst ((qs.take 20).map V.ref)) b=some (.lst ((qs.take 20).map V.ref)):=uS
  generalize upd H b (.lst ((qs.take 20).map V.ref))=H1 at s1 hb1 ⊢;walk_at "c1";generalize hwt:wr.take 20=wt at *;generalize hqt:qs.take 20=qt at *;walk_at "s2";refine⟨_,.inl (SqL.of hb1),by show 2<=sizeLine;decide,fun D hD=>?_⟩
  rw [List.length_map,<-hl,e2];clear e2 k2;have s2:Same H (upd H1 D (.lst [V.int 1,V.int (wt.length:Int)])):=s1.upd (s1.free hD)
  have s12:Same H1 (upd H1 D (.lst [V.int 1,V.int (wt.length:Int)])):=Same.new hD
  have hD1:upd H1 D (.lst [V.int 1,V.int (wt.length:Int)]) D=some (.lst (bv (1::wt.length::((wt.take 0).flatMap fun e=>[e.1,e.2])))):=by
   rw [uS];rfl
  generalize upd H1 D (.lst [V.int 1,V.int (wt.length:Int)])=H2 at s2 s12 hD1 ⊢;refine bY fun k3 e3=>?_
  refine⟨_,rfl,b,rfl,⟨_,SqL.of (s12 _ _ hb1)⟩,for_list (K:=K) (a:=b) (xs:=qt.map V.ref) (fun i σ H'=>∃ v1 v2,σ=[some (.ref a),some (.ref b),some (.ref D),v1,v2]/\Same H H'/\H' b=some (.lst (qt.map V.ref))/\H' D=some (.lst (bv (1::wt.length::((wt.take i).flatMap fun e=>[e.1,e.2])))))
   ⟨none,none,rfl,s2,s12 _ _ hb1,hD1⟩ (fun i σ H' _ ⟨_,_,_,_,z,_⟩=>SqL.of z) ?_ ?_⟩
  ·rintro i x σ H' hx ⟨v1,v2,rfl,s5,hb',hD'⟩
   rw [List.getElem?_map] at hx;obtain⟨q,hq,rfl⟩:=Option.map_eq_some_iff.mp hx;obtain⟨e,he,heq⟩:=Paired.ta_ h3 hq;have hlt:=(List.getElem?_eq_some_iff.mp he).1;have fl:=flat_len (wt.take i);rw [List.length_take] at fl;refine⟨q,_,rfl,SqT.of (s5 _ _ heq),rfl,_,_,rfl,_,_,rfl,rfl,?_⟩
   walk_at "rd"
   have bD:b≠D:=fun z=>by
    rw [z] at hb';have:=s1.free hD
    rw [<-z,hb1] at hD;cases hD
   refine⟨tyl hD',_,hD',?_,tyl uS,_,uS,?_,_,_,⟨rfl,rfl⟩,(s5.upd (s1.free hD)).upd (s1.free hD),?_,?_⟩
   ·rw [aG];simp only [List.length_cons];rw [fl];exact Nat.lt_of_le_of_lt (show 2*min i wt.length+1+1<=50 by omega) (by decide)
   ·rw [List.length_append,aG];simp only [List.length_cons,List.length_nil];rw [fl];exact Nat.lt_of_le_of_lt (show 2*min i wt.length+1+1+(0+1)<=50 by omega) (by decide)
   ·rw [uN bD,uN bD];exact hb'
   ·rw [uS,cG he,flat_snoc];simp [bv]
  ·rintro σ H' ⟨v1,v2,rfl,s5,hb',hD'⟩
   rw [List.length_map,<-hl,List.take_length] at hD';rw [e3];walk_at "rd";exact k D H' s5 (s1.free hD) hD'
def gm (pw:Nat)(os:Ords)(m:Man):Man:=if m.power=pw then {m with order:=Vbsoac.orderOf os m.prov} else m
theorem gm_prov (pw:Nat)(os:Ords)(m:Man):(gm pw os m).prov=m.prov:=by unfold gm;split <;> rfl
theorem told_get:∀ {os:Ords}{kvs:List (Key×V)},Paired (fun(y:Nat×Vbsoaa.Order)(kv:Key×V)=>kv.1=Sum.inl ((y.1:Nat):Int)/\∃ oa,kv.2=.ref oa/\SqT K H oa (bv (orderNumbers y.2))) os kvs->∀ p:Nat,
  (cF kvs (Sum.inl (p:Int))=none/\Vbsoac.orderOf os p=.hold)\/∃ oa,cF kvs (Sum.inl (p:Int))=some (.ref oa)/\SqT K H oa (bv (orderNumbers (Vbsoac.orderOf os p)))
 | _,_,.nil,p=>.inl ⟨rfl,rfl⟩
 | _,_,.cons (a:=y) (b:=kv) (l₁:=os) h t,p=>by
  by_cases c:y.1=p
  ·right
   obtain⟨oa,e,hs⟩:=h.2;refine⟨oa,by rw [iW (by rw [h.1,c]),e],?_⟩
   have:Vbsoac.orderOf (y::os) p=y.2:=by
    unfold Vbsoac.orderOf;rw [List.find?_cons_of_pos (by simpa using c)]
   rw [this];exact hs
  ·have e1:Vbsoac.orderOf (y::os) p=Vbsoac.orderOf os p:=by
    unfold Vbsoac.orderOf;rw [List.find?_cons_of_neg (by simpa using c)]
   rw [e1,gN (by rw [h.1];intro e;have:=Sum.inl.inj e;omega)]
   exact told_get t p
def sp_give_orders:SP:=fun K P w ad vs H Q _=>∃ (tb d:Addr)(A:TAd)(t:Table)(pw:Nat)(os:Ords),vs=[.ref tb,.int pw,.ref d]/\TabAt K P w ad H tb A t/\ToldAt K H d os/\WF (Vbsoac.given t pw os) /\
 ∀ H',TabAt K P w ad H' tb A (Vbsoac.given t pw os)->(∀ b o,H b=some o->(∀ C dx a b c d,o≠.ins C dx (aZ a b c d))->H' b=some o)->(∀ b,H' b=none->H b=none)->Q .non H'
theorem f_Table_ne_Unit {a b c d x y z u:V}:aQ a b c d≠aZ x y z u:=fun e=>by
 have:=congrArg (fun l=>l.head?.map (·.1)) e
 exact absurd this (by unfold aQ aZ;simp only [List.head?_cons,Option.map_some,Option.some.injEq];decide)
theorem f_Prov_ne_Unit {a b c d x y z u:V}:aK a b c d≠aZ x y z u:=fun e=>by
 have:=congrArg (fun l=>l.head?.map (·.1)) e
 exact absurd this (by unfold aK aZ;simp only [List.head?_cons,Option.map_some,Option.some.injEq];decide)
abbrev O_give_orders:=DO "give_orders" 2 ["table","power","told"] sp_give_orders
theorem ok_give_orders (F:Fun K "give_orders" "give_orders" kL f fd)(T:Txt K mg ad)(D_Table_provinces_with_units:bA P w K mg base ad):FnOk P w K mg base CX0 2 f fd ["table","power","told"] (sp_give_orders K P w ad):=by
 refine F.ok sc_give_orders (fun vs H Q E h=>?_) (fun _ A _ s H vs Q E hr h=>?_)
 ·obtain⟨tb,d,A,t,pw,os,rfl,_⟩:=h;rfl
 ·obtain⟨tb,d,A,t,pw,os,rfl,hT,hd,wf',k⟩:=h;have hu:=iI hr
  refine⟨_,(sO (ps_for PassesOwn.never rfl (jX (aU (pv 0) T.cl_Table D_Table_provinces_with_units hr)) (cY (i:=3) sc_give_orders.nd rfl (Or.inl rfl)) (sC (aD (i:=4) sc_give_orders.nd rfl (Or.inl rfl) (hG hu (eF (pv 0) rfl) (pv 3) (fun _ _=>rfl)))
   (sO (aB (tR aM (eF (pv 4) rfl) (pv 1) (nMk _)) (sO (cH (pv 4) (pe_dget2 hu (pv 2) (pv 3) (eG rfl T.g_HOLD) ⟨rfl,rfl,rfl,rfl⟩) rfl)) sN))))),?_⟩
  obtain⟨us,h6,h7,h8,h9⟩:=hT.units
  have hmen:∀ {i:Nat}{m:Man},t.men[i]?=some m->∃ a,(m,a)∈us/\cF (uKV us) (Sum.inl ((m.prov:Nat):Int))=some (.ref a):=fun {i m} hm=>by
   have hmem:=List.mem_of_getElem? hm;obtain⟨u,hu',e⟩:=List.mem_map.mp (h7.symm.subset hmem);obtain⟨v,hv,e2,hv2⟩:=uKV_some (us:=us) (p:=m.prov) ⟨u,hu',by rw [e]⟩
   have hvm:v.1∈t.men:=h7.subset (List.mem_map.mpr ⟨v,hv,rfl⟩)
   have e3:=hW hT.wf.sorted hvm;rw [e2,hW hT.wf.sorted hmem] at e3;have e4:m=v.1:=Option.some.inj e3
   refine⟨v.2,?_,hv2⟩
   rw [e4];exact hv
  have uprov:∀ {u v:Man×Addr},u∈us->v∈us->u.1.prov=v.1.prov->u=v:=fun {u v} hu1 hv1 e=>by
   have h1:u.1∈t.men:=h7.subset (List.mem_map.mpr ⟨u,hu1,rfl⟩)
   have h2:v.1∈t.men:=h7.subset (List.mem_map.mpr ⟨v,hv1,rfl⟩)
   have e3:=hW hT.wf.sorted h1;rw [e,hW hT.wf.sorted h2] at e3
   have nd:(us.map (·.1)).Nodup:=by
    refine h7.nodup_iff.mpr (hT.wf.sorted.imp fun {a b} hab e=>?_)
    rw [e] at hab;exact Nat.lt_irrefl _ hab
   exact nodup_inj nd hu1 hv1 (Option.some.inj e3).symm
  have uaddr:∀ {u v:Man×Addr},u∈us->v∈us->u.2=v.2->u=v:=fun {u v} hu1 hv1 e=>nodup_inj h8 hu1 hv1 e
  refine⟨_,rfl,_,_,_,rfl,hT.obj,bL,tb,A,t,rfl,hT,fun L H1 s1 nL hL=>⟨_,rfl,⟨_,SqL.of hL⟩,?_⟩⟩
  have inv0:∀ u∈us,UnitAt K ad H1 (if u.1.prov∈(t.men.take 0).map (fun m=>m.prov) then gm pw os u.1 else u.1) u.2:=fun u hu1=>by
   rw [if_neg (by simp)];exact(h9 u hu1).mono (Same.keepT s1)
  refine for_list (K:=K) (a:=L) (xs:=bv (t.men.map fun m=>m.prov)) (fun i σ H'=>∃ v1 v2,σ=[some (.ref tb),some (.int (pw:Int)),some (.ref d),v1,v2]/\(∀ b o,H1 b=some o->(∀ C dx a b c d,o≠.ins C dx (aZ a b c d))->H' b=some o)/\(∀ b,H' b=none->H1 b=none) /\
    ∀ u∈us,UnitAt K ad H' (if u.1.prov∈(t.men.take i).map (fun m=>m.prov) then gm pw os u.1 else u.1) u.2) ⟨none,none,rfl,fun b o h _=>h,fun b h=>h,inv0⟩ (fun i σ H' _ ⟨_,_,_,kp,_⟩=>SqL.of (kp _ _ hL (fun _ _ _ _ _ _ e=>nomatch e))) ?_ ?_
  ·rintro i x σ H' hx ⟨v1,v2,rfl,kp,nn,hun⟩
   rw [show(bv (t.men.map fun m=>m.prov))[i]?=(t.men[i]?).map (fun m=>V.int ((m.prov:Nat):Int)) by simp only [bv,List.map_map,List.getElem?_map];rfl] at hx
   obtain⟨m,hm,rfl⟩:=Option.map_eq_some_iff.mp hx;obtain⟨a,hma,hva⟩:=hmen hm;have hlt:=(List.getElem?_eq_some_iff.mp hm).1
   have hnew:∀ {m':Man},m'.prov∈(t.men.take (i+1)).map (fun m=>m.prov)↔m'.prov∈(t.men.take i).map (fun m=>m.prov)\/m'.prov=m.prov:=fun {m'}=>by
    rw [cG hm,List.map_append];simp
   have hnot:¬ m.prov∈(t.men.take i).map (fun m=>m.prov):=fun z=>by
    obtain⟨m2,hm2,e⟩:=List.mem_map.mp z;obtain⟨j,hj,e2⟩:=List.mem_take_iff_getElem.mp hm2;have:=List.pairwise_iff_getElem.mp hT.wf.sorted j i (by omega) hlt (by omega)
    rw [e2,e] at this;obtain⟨_,e3⟩:=List.getElem?_eq_some_iff.mp hm;rw [e3] at this;exact Nat.lt_irrefl _ this
   have kobj:=kp _ _ (s1 _ _ hT.obj) (fun C dx a b c d e=>by injection e with _ _ e;exact absurd e (f_Table_ne_Unit))
   have kun:=kp _ _ (s1 _ _ h6) (fun _ _ _ _ _ _ e=>nomatch e)
   have ua:UnitAt K ad H' (if m.prov∈(t.men.take i).map (fun m=>m.prov) then gm pw os m else m) a:=hun (m,a) hma
   rw [if_neg hnot] at ua;obtain⟨ux,uo,u1,u2⟩:=ua;walk_at "s1";refine⟨_,_,_,kobj,T.cl_Table,T.nf_Table_units,_,aE,_,rfl,_,by rw [<-hva];exact DGet.k (k:=Sum.inl ((m.prov:Nat):Int)) kun,?_⟩
   walk_at "c1";walk_at "rd";refine⟨_,_,_,u1,T.cl_Unit,T.nf_Unit_power,_,jY,rfl,?_⟩
   by_cases c:m.power=pw
   ·rw [if_pos (by rw [c])]
    obtain⟨kvs,g1,g2⟩:=id hd;have kd:=kp _ _ (s1 _ _ g1) (fun _ _ _ _ _ _ e=>nomatch e)
    have ktup:∀ {oa:Addr}{xs:List V},SqT K H oa xs->SqT K H' oa xs:=fun {oa xs} h=>by
     rcases h with (h | ⟨o,h⟩) | h
     ·exact .inl (.inl (kp _ _ (s1 _ _ h) (fun _ _ _ _ _ _ e=>nomatch e)))
     ·exact .inl (.inr ⟨o,kp _ _ (s1 _ _ h) (fun _ _ _ _ _ _ e=>nomatch e)⟩)
     ·exact .inr h
    obtain⟨oa,eoa,hoa⟩:∃ oa,(cF kvs (Sum.inl ((m.prov:Nat):Int))).getD (.ref ad.a_HOLD)=.ref oa/\SqT K H' oa (bv (orderNumbers (Vbsoac.orderOf os m.prov))):=by
     rcases told_get g2 m.prov with ⟨e1,e2⟩ | ⟨oa,e1,e2⟩
     ·exact⟨ad.a_HOLD,by rw [e1];rfl,by rw [e2];exact T.t_HOLD H'⟩
     ·exact⟨oa,by rw [e1];rfl,ktup e2⟩
    refine⟨.inl ⟨_,.inl kd⟩,_,DGet.k (k:=Sum.inl ((m.prov:Nat):Int)) kd,_,_,_,u1,T.cl_Unit,T.nf_Unit_order,by rw [f_Unit_len];decide,?_⟩
    rw [eoa,f_Unit_put_order]
    have kp2:∀ b o,H1 b=some o->(∀ C dx a b c d,o≠.ins C dx (aZ a b c d))->upd H' a (.ins ad.cUnit ux (aZ (.int (m.power:Int)) (.int ((bit m.fleet:Nat):Int)) (.int (m.shore:Int)) (.ref oa))) b=some o:=fun b o hb hne=>by
     have h1:=kp b o hb hne;rw [uN (bB h1 u1 (hne _ _ _ _ _ _))];exact h1
    have kt:∀ {oa:Addr}{xs:List V},SqT K H' oa xs->SqT K (upd H' a (.ins ad.cUnit ux (aZ (.int (m.power:Int)) (.int ((bit m.fleet:Nat):Int)) (.int (m.shore:Int)) (.ref oa)))) oa xs:=fun {oa xs} h=>by
     rcases h with (h | ⟨o,h⟩) | h
     ·exact .inl (.inl (by rw [uN (bB h u1 (fun e=>nomatch e))];exact h))
     ·exact .inl (.inr ⟨o,by rw [uN (bB h u1 (fun e=>nomatch e))];exact h⟩)
     ·exact .inr h
    refine⟨_,_,⟨rfl,rfl⟩,kp2,fun b hb=>nn b (by rw [uN (fun e=>by rw [e,uS] at hb;cases hb)] at hb;exact hb),fun u hu1=>?_⟩
    by_cases e:u.1.prov=m.prov
    ·have e2:=uprov hu1 hma e;subst e2;rw [if_pos (hnew.mpr (.inr rfl))];unfold gm;rw [if_pos c];exact⟨ux,oa,uS,kt hoa⟩
    ·have e3:(u.1.prov∈(t.men.take (i+1)).map (fun m=>m.prov))↔(u.1.prov∈(t.men.take i).map (fun m=>m.prov)):=by
      rw [hnew];exact⟨fun z=>z.resolve_right e,.inl⟩
     simp only [e3];have hne:u.2≠a:=fun z=>e (by rw [uaddr hu1 hma z])
     obtain⟨vx,vo,v1',v2'⟩:=hun u hu1;refine⟨vx,vo,by rw [uN hne];exact v1',?_⟩
     rcases v2' with (h | ⟨o,h⟩) | h
     ·exact .inl (.inl (by rw [uN (bB h u1 (fun e=>nomatch e))];exact h))
     ·exact .inl (.inr ⟨o,by rw [uN (bB h u1 (fun e=>nomatch e))];exact h⟩)
     ·exact .inr h
   ·rw [if_neg (fun z=>c (by have:=V.int.inj z;omega))]
    refine⟨_,_,⟨rfl,rfl⟩,kp,nn,fun u hu1=>?_⟩
    have:=hun u hu1
    by_cases e:u.1.prov=m.prov
    ·have e2:=uprov hu1 hma e;subst e2;rw [if_pos (hnew.mpr (.inr rfl))];rw [if_neg hnot] at this;unfold gm;rw [if_neg c];exact this
    ·have:(u.1.prov∈(t.men.take (i+1)).map (fun m=>m.prov))↔(u.1.prov∈(t.men.take i).map (fun m=>m.prov)):=by
      rw [hnew];exact⟨fun z=>z.resolve_right e,.inl⟩
     simp only [this];exact hun u hu1
  ·rintro σ H' ⟨v1,v2,rfl,kp,nn,hun⟩
   rw [aG,List.length_map,List.take_length] at hun;have kp':∀ b o,H b=some o->(∀ C dx a b c d,o≠.ins C dx (aZ a b c d))->H' b=some o:=fun b o hb hne=>kp b o (s1 _ _ hb) hne
   refine k H' ?_ kp' fun b hb=>s1.free (nn b hb)
   have kdict:∀ b o,H b=some o->(∀ C dx fs,o≠.ins C dx fs)->H' b=some o:=fun b o hb hne=>kp' b o hb fun C dx a b c d=>hne C dx _
   obtain⟨qs,hq1,hq2⟩:=hT.provs;refine⟨kp' _ _ hT.obj (fun C dx a b c d e=>by injection e with _ _ e;exact absurd e f_Table_ne_Unit),⟨qs,kdict _ _ hq1 (fun _ _ _ e=>nomatch e),Paired.mapP hq2 fun p q z=>?_⟩,kdict _ _ hT.land (fun _ _ _ e=>nomatch e),?_,⟨us.map fun u=>(gm pw os u.1,u.2),?_,?_,?_,?_⟩,wf',hT.fx.choose,kdict _ _ hT.fx.choose_spec (fun _ _ _ e=>nomatch e)⟩
   ·obtain⟨dx,n,s,l,ws,g1,g2,g3,g4,g5,g6⟩:=z;exact⟨dx,n,s,l,ws,kp' _ _ g1 (fun C dx a b c d e=>by injection e with _ _ e;exact absurd e f_Prov_ne_Unit),kdict _ _ g2 (fun _ _ _ e=>nomatch e),kdict _ _ g3 (fun _ _ _ e=>nomatch e),g4,kdict _ _ g5 (fun _ _ _ e=>nomatch e),g6.mono fun b xs e=>kdict _ _ e (fun _ _ _ z=>nomatch z)⟩
   ·refine hT.sea.mono ?_ fun b xs e=>kdict _ _ e (fun _ _ _ z=>nomatch z)
    obtain⟨_,_,xs,e,_⟩:=hT.sea;rw [e];exact kdict _ _ e (fun _ _ _ z=>nomatch z)
   ·have:=kdict _ _ h6 (fun _ _ _ z=>nomatch z)
    rw [this,List.map_map];congr 2
    refine List.map_congr_left fun u _=>?_
    simp only [Function.comp,gm_prov]
   ·rw [List.map_map];have:=h7.map (gm pw os)
    rw [List.map_map] at this;exact this
   ·rw [List.map_map];exact h8
   ·intro u hu1;obtain⟨v,hv,rfl⟩:=List.mem_map.mp hu1;have:=hun v hv
    rw [if_pos (List.mem_map.mpr ⟨v.1,h7.subset (List.mem_map.mpr ⟨v,hv,rfl⟩),rfl⟩)] at this;exact this
def PostL (K:W.Frag)(P:Program)(w:World)(ad:Adr)(tb:Addr)(A:TAd)(H:Hp)(t:Table)(c:Call)(Q:VK):Prop :=
 ∀ A' H' D,TabAt K P w ad H' tb A' (Vbsoac.step t c).1->(A'.pv=A.pv\/H A'.pv=none)->KeepF A.pv H H'->H D=none->H' D=some (.lst ((Vbsoac.step t c).2.map V.int))->D≠A'.pv->Q (.ref D) H'
theorem PostL.same {tb D:Addr}{H H':Hp}{t:Table}{c:Call}{Q:VK}{l:List Int}(k:PostL K P w ad tb A H t c Q)(hT:TabAt K P w ad H tb A t)(s:Same H H')(e:Vbsoac.step t c=(t,l))(nD:H D=none)(hD:H' D=some (.lst (l.map V.int))):Q (.ref D) H':=by
 obtain⟨qs,hq,_⟩:=hT.provs;exact k A H' D (by rw [e];exact hT.same s) (.inl rfl) (Same.keepF s _) nD (by rw [e];exact hD) (Ne.symm (nN hq nD))
theorem PostL.one {H H':Hp}{t:Table}{c:Call}{Q:VK}{r:Int}(k:PostL K P w ad tb A H t c Q)(hT:TabAt K P w ad H tb A t)(s:Same H H')(e:Vbsoac.step t c=(t,[r])):∀ p,H' p=none->Q (.ref p) (upd H' p (.lst [.int r])):=fun p hp =>
 k.same hT (s.upd (s.free hp)) e (s.free hp) uS
def sp_read_text:SP:=fun K P w ad vs H Q _=>∃ (tb a:Addr)(A:TAd)(t:Table) (pw:Int)(x:List Int),vs=[.ref tb,.int pw,.ref a]/\TabAt K P w ad H tb A t/\SqL K H a (x.map V.int)/\x.length<=3000/\PostL K P w ad tb A H t (.read pw x) Q
structure TInv (K:W.Frag)(t:Table)(pw:Nat)(H:Hp)(tb a d W:Addr)(lines:List Bytes)(i:Nat)(σ:L2.St)(H':Hp):Prop where
 st:∃ v1 v2 v3,σ=[some (.ref tb),some (.int (pw:Int)),some (.ref a),some (.ref d),some (.ref W),v1,v2,v3]
 kp:∀ b o,H b=some o->b≠d->b≠W->H' b=some o
 told:ToldAt K H' d (Vbsoac.readLines t pw 1 (lines.take i) {}).orders
 wrong:WrongAt H' W (Vbsoac.readLines t pw 1 (lines.take i) {}).wrong
 few:(Vbsoac.readLines t pw 1 (lines.take i) {}).orders.length<=i/\(Vbsoac.readLines t pw 1 (lines.take i) {}).wrong.length<=i
 ok:∀ y∈(Vbsoac.readLines t pw 1 (lines.take i) {}).orders,GivenOk t pw y
theorem TabAt.keepTW {H H':Hp}{tb d W:Addr}{t:Table}(hT:TabAt K P w ad H tb A t)(nd:H d=none)(nW:H W=none)(k:∀ b o,H b=some o->b≠d->b≠W->H' b=some o):TabAt K P w ad H' tb A t :=
 hT.mono fun b o h _=>k b o h (nN h nd) (nN h nW)
abbrev O_read_text:=DO "read_text" 11 ["table","power","text"] sp_read_text
theorem ok_read_text (F:Fun K "read_text" "read_text" st_read_text f fd)(T:Txt K mg ad)(D_give_orders:O_give_orders P w K mg base ad)(D_tell_wrong_lines:O_tell_wrong_lines P w K mg base ad)(D_lines_of:O_lines_of P w K mg base ad)(D_take_line:O_take_line P w K mg base ad)(D_is_text:O_is_text P w K mg base ad)(D_is_power:O_is_power P w K mg base ad):FnOk P w K mg base CX0 11 f fd ["table","power","text"] (sp_read_text K P w ad):=by
 refine F.ok sc_read_text (fun vs H Q E h=>?_) (fun _ A _ s H vs Q E hr h=>?_)
 ·obtain⟨tb,a,A,t,pw,x,rfl,_⟩:=h;rfl
 ·obtain⟨tb,a,A,t,pw',x,rfl,hT,hx,hl,k⟩:=h
  refine⟨_,(sC (aB (gB (PW.pt (iS (aX (eD D_is_power hr (pC (pv 1) pN))) (gZ (aX (eD D_is_text hr (pC (pv 2) (pC (eG rfl T.g_LONGEST_TEXT_reading) pN)))))))) (sO (sR (aT (pC (eG rfl T.g_OUT_OF_RANGE) pN)))) sN)
   (sC (aD (i:=3) sc_read_text.nd rfl (Or.inl rfl) pe_dnewK)
   (sC (aD (i:=4) sc_read_text.nd rfl (Or.inl rfl) (aT pN))
   (sC (ps_for PassesOwn.never rfl (pi_enum1 rfl T.n_enumerate (pC (eD D_lines_of hr (pC (pv 2) pN)) pN)) (pg_tup2K (K:=K) (i:=5) (j:=6) rfl rfl sc_read_text.nd rfl (Or.inl rfl) rfl (Or.inl rfl)) (sC (aD (i:=7) sc_read_text.nd rfl (Or.inl rfl) (eD D_take_line hr (pC (pv 0) (pC (pv 1) (pC (pv 6) (pC (pv 3) pN))))))
   (sO (aB (tR op_ne (pv 7) eJ (nMk _)) (sO (bZ (jA PySem.F.plainAttrs_list PySem.F.slot_list_append PySem.F.type_list_append dA (pv 4) (pC (eM (pC (pv 5) (pC (pv 7) pN))) pN)))) sN))))
   (sC (aB (tR op_gt (aR T.n_len (pC (pv 4) pN)) eJ (nMk _)) (sO (sR (eD D_tell_wrong_lines hr (pC (pv 4) pN)))) sN)
   (sC (bZ (eD D_give_orders hr (pC (pv 0) (pC (pv 1) (pC (pv 3) pN)))))
   (sO (sR (aT (pC eJ (pC (bI call_lenD rfl T.n_len PySem.boot_len (pC (pv 3) pN)) pN))))))))))),?_⟩
  walk_at "s1";refine⟨pw',rfl,_,rfl,?_⟩
  cases c1:isPower pw' with
  | false =>
   rw [if_neg (by decide),if_pos trivial];exact⟨by show 1<=sizeLine;decide,k.one hT (Same.refl _) (by simp only [Vbsoac.step,c1,Bool.false_and,if_true])⟩
  | true =>
  rw [if_pos rfl];refine⟨a,x,2000,rfl,hx,Nat.le_trans hl (by decide),fun H1 s1=>⟨_,rfl,?_⟩⟩
  rw [show(2000:Int)=((2000:Nat):Int) from rfl,isText_eq]
  cases c2:isText 2000 x with
  | false =>
   rw [if_pos rfl];exact⟨by show 1<=sizeLine;decide,k.one hT s1 (by simp only [Vbsoac.step,c1,c2,Bool.and_false,if_true])⟩
  | true =>
  rw [if_neg (by decide),e1];clear e1 k1;obtain⟨b1,b2,b3⟩:=jD c2;have hx1:=s1.seq hx;rw [b1] at hx1
  obtain⟨pw,rfl⟩:∃ n:Nat,pw'=(n:Int):=by
   unfold isPower Vbsoac.within at c1;rw [Bool.and_eq_true,decide_eq_true_eq,decide_eq_true_eq] at c1;exact⟨pw'.toNat,by omega⟩
  generalize hnn:nats x=nn at *
  have step:Vbsoac.step t (.read (pw:Int) x)=(if (reading t pw nn).wrong=[] then(Vbsoac.given t pw (reading t pw nn).orders,Vbsoac.ints [0,(reading t pw nn).orders.length])
    else(t,Vbsoac.ints (1::((reading t pw nn).wrong.take 20).length::((reading t pw nn).wrong.take 20).flatMap fun e=>[e.1,e.2]))):=by
   simp only [Vbsoac.step,c1,c2,Bool.true_and,Bool.true_eq_false,if_false,Int.toNat_natCast,hnn];rfl
  walk_at "s2";refine fun d nd=>?_
  walk_at "c2";have s2:Same H (upd H1 d (.dK [])):=s1.upd (s1.free nd)
  have s12:Same H1 (upd H1 d (.dK [])):=Same.new nd
  have hd1:upd H1 d (.dK []) d=some (.dK []):=uS
  have nd0:=s1.free nd;generalize upd H1 d (.dK [])=H2 at s2 s12 hd1 ⊢;walk_at "s3";refine⟨Nat.zero_le _,fun W nW=>?_⟩
  walk_at "c3";have s3:Same H2 (upd H2 W (.lst [])):=Same.new nW
  have hW1:upd H2 W (.lst []) W=some (.lst (([]:List Addr).map V.ref)):=uS
  have nW0:=s2.free nW;have hdW:d≠W:=nN hd1 nW
  generalize upd H2 W (.lst [])=H3 at s3 hW1 ⊢;have s13:Same H H3:=s2.trans s3
  have hd3:=s3 _ _ hd1;refine bY fun k4 e4=>?_
  refine⟨_,rfl,a,nn,rfl,s3.seq (s12.seq hx1),by rw [b2];exact Nat.lt_of_le_of_lt hl (by decide),fun L qs H4 s4 nL hL hw=>⟨L,_,rfl,SqL.of hL,?_⟩⟩
  have hT4:=hT.same (s13.trans s4);have hlen:(Vbsoab.linesOf nn).length=qs.length:=Paired.length hw
  have hll:(Vbsoab.linesOf nn).length<=2500:=by
   rw [lines_parts];have:=parts_len 10 nn
   omega
  generalize hln:Vbsoab.linesOf nn=lines at *;have nd4:L≠d:=fun e=>by rw [e,hd3] at nL;cases nL
  have nW4:L≠W:=fun e=>by rw [e,hW1] at nL;cases nL
  refine for_enum1 (K:=K) (a:=L) (xs:=qs.map V.ref) (TInv K t pw H4 tb a d W lines) ⟨⟨none,none,none,rfl⟩,fun b o h _ _=>h,⟨[],s4 _ _ hd3,.nil⟩,⟨[],s4 _ _ hW1,.nil⟩,⟨Nat.le_refl _,Nat.le_refl _⟩,fun y hy=>nomatch hy⟩ (fun i σ H' _ I=>SqL.of (I.kp _ _ hL nd4 nW4)) ?_ ?_
  ·rintro i x' σ H' Tq hx' I nT
   rw [List.getElem?_map] at hx';obtain⟨q,hq,rfl⟩:=Option.map_eq_some_iff.mp hx';obtain⟨l,hl',hlq⟩:=Paired.ta_ hw hq;have hlt:=(List.getElem?_eq_some_iff.mp hl').1;obtain⟨⟨v1,v2,v3,rfl⟩,kp,told,wrong,few,ok⟩:=I;refine⟨Tq,_,rfl,SqT.of uS,rfl,_,_,rfl,_,_,rfl,rfl,?_⟩
   have hS:=readLines_snoc t pw l (lines.take i) 1 {};rw [<-cG hl',rstep_eq,List.length_take,Nat.min_eq_left (Nat.le_of_lt hlt)] at hS;generalize Vbsoac.readLines t pw 1 (lines.take i) {}=X at *;have s5:Same H' (upd H' Tq (.tup [.int ((i+1:Nat):Int),.ref q])):=Same.new nT
   generalize upd H' Tq (.tup [.int ((i+1:Nat):Int),.ref q])=H5 at s5 ⊢;have kp5:∀ b o,H4 b=some o->b≠d->b≠W->H5 b=some o:=fun b o h z1 z2=>s5 _ _ (kp b o h z1 z2)
   have told5:=told.mono s5;obtain⟨ws,hW5,hwp⟩:=wrong;have hW5':=s5 _ _ hW5;have nd5:H4 d≠none:=by rw [s4 _ _ hd3];simp
   have hlb:l.length<=3000:=by
    have hm:l∈lines:=List.mem_of_getElem? hl'
    rw [<-hln,lines_parts] at hm;have:=(parts_each 10 nn l hm).1
    omega
   have hT5:TabAt K P w ad H5 tb A t:=hT.keepTW nd0 nW0 fun b o h z1 z2=>kp5 b o ((s13.trans s4) _ _ h) z1 z2
   have hq5:H5 q=some (.tup (bv l)):=kp5 _ _ hlq (bB hlq (s4 _ _ hd3) (fun e=>nomatch e)) (bB hlq (s4 _ _ hW1) (fun e=>nomatch e))
   obtain⟨kvs5,hk5,_⟩:=id told5;walk_at "s5";refine⟨tb,q,d,A,t,pw,l,X.orders,rfl,hT5,hq5,hlb,told5,by omega,fun H6 kd told6=>?_⟩
   walk_at "c5";have kp6:∀ b o,H4 b=some o->b≠d->b≠W->H6 b=some o:=fun b o h z1 z2=>kd _ _ (kp5 b o h z1 z2) z1
   have hW6:H6 W=some (.lst (ws.map V.ref)):=kd _ _ hW5' (Ne.symm hdW)
   have hwp6:Paired (fun(e:Nat×Nat)(q:Addr)=>H6 q=some (.tup [.int (e.1:Int),.int (e.2:Int)])) X.wrong ws:=Paired.mapP hwp fun e q z=>kd _ _ (s5 _ _ z) (bB (s5 _ _ z) hk5 (fun e=>nomatch e))
   have hws:X.wrong.length=ws.length:=Paired.length hwp6
   obtain⟨kvs6,hk6,hkp6⟩:=id told6;have okl:=lstep_ok (l:=l) ok
   have lenl:=lstep_len t pw l X.orders;generalize hls:iH t pw l X.orders=Y at *;walk_at "rd";refine⟨rfl,?_⟩
   by_cases c:Y.1≠0
   ·rw [if_pos (by omega)];rw [if_pos c] at hS
    have e2:Y.2=X.orders:=by
     rw [<-hls];exact lstep_bad (by rw [hls];exact c)
    refine⟨tyl hW6,by show 2<=sizeLine;decide,fun T2 nT2=>⟨_,by rw [uN (nN hW6 nT2)];exact hW6,?_,?_⟩⟩
    ·rw [List.length_map,<-hws];exact Nat.lt_of_le_of_lt (show X.wrong.length<=3000 by omega) (by decide)
    ·have T2W:T2≠W:=fun e=>by rw [e,hW6] at nT2;cases nT2
     have T2d:T2≠d:=fun e=>by rw [e,hk6] at nT2;cases nT2
     have tupk:∀ b xs,H6 b=some (.tup xs)->upd (upd H6 T2 (.tup [V.int ((i+1:Nat):Int),V.int (Y.1:Int)])) W (.lst (ws.map V.ref++[V.ref T2])) b=some (.tup xs):=fun b xs z=>by
      rw [uN (bB z hW6 (fun e=>nomatch e)),uN (nN z nT2)]
      exact z
     refine⟨⟨_,_,_,rfl⟩,fun b o h z1 z2=>?_,?_,⟨ws++[T2],?_,?_⟩,?_,?_⟩
     ·have h6:=kp6 b o h z1 z2;rw [uN z2,uN (nN h6 nT2)];exact h6
     ·rw [hS];show ToldAt K _ d X.orders
      rw [<-e2];refine⟨kvs6,?_,Paired.mapP hkp6 fun y kv z=>⟨z.1,z.2.choose,z.2.choose_spec.1,?_⟩⟩
      ·rw [uN hdW,uN (Ne.symm T2d)];exact hk6
      ·rcases z.2.choose_spec.2 with (h | ⟨o,h⟩) | h
       ·exact .inl (.inl (tupk _ _ h))
       ·refine .inl (.inr ⟨o,?_⟩)
        rw [uN (bB h hW6 (fun e=>nomatch e)),uN (nN h nT2)]
        exact h
       ·exact .inr h
     ·rw [uS,List.map_append];rfl
     ·rw [hS];refine Paired.snoc ?_ (Paired.mapP hwp6 fun e q z=>tupk _ _ z)
      rw [uN T2W,uS,Nat.add_comm 1 i]
     ·rw [hS];refine⟨Nat.le_succ_of_le few.1,?_⟩
      show(X.wrong++[_]).length<=i+1
      rw [List.length_append];simp only [List.length_cons,List.length_nil];omega
     ·rw [hS];exact ok
   ·rw [if_neg (by omega)];rw [if_neg c] at hS;refine⟨⟨_,_,_,rfl⟩,kp6,by rw [hS];exact told6,⟨ws,hW6,by rw [hS];exact hwp6⟩,?_,by rw [hS];exact okl⟩
    rw [hS];exact⟨Nat.le_trans lenl (by omega),Nat.le_succ_of_le few.2⟩
  ·rintro σ H' ⟨⟨v1,v2,v3,rfl⟩,kp,told,⟨ws,hW',hwp⟩,few,ok⟩
   rw [List.length_map,<-hlen,List.take_length] at told hwp ok
   have hR:Vbsoac.readLines t pw 1 lines {}=reading t pw nn:=by
    rw [<-hln];rfl
   rw [hR] at told hwp ok;generalize reading t pw nn=X at *;have kpH:∀ b o,H b=some o->H' b=some o:=fun b o h=>kp b o ((s13.trans s4) _ _ h) (nN h nd0) (nN h nW0)
   have hT':TabAt K P w ad H' tb A t:=hT.same kpH
   have hws:X.wrong.length=ws.length:=Paired.length hwp
   show k4 _ _
   walk_at "c4";walk_at "s5";refine⟨_,.inl (SqL.of hW'),?_⟩
   rw [List.length_map,<-hws];by_cases c:X.wrong=[]
   ·rw [if_neg (by rw [c];decide)]
    rw [if_pos c] at step;show k5 _ _
    walk_at "c5";have wf':=given_wf hT.wf ok;walk_at "s6";refine⟨tb,d,A,t,pw,X.orders,rfl,hT',told,wf',fun H6 hT6 kp6 nn6=>?_⟩
    rw [e6];walk_at "rd";obtain⟨kvs,hk1,hk2⟩:=told;refine⟨_,kp6 _ _ hk1 (fun _ _ _ _ _ _ e=>nomatch e),by show 2<=sizeLine;decide,fun D nD=>?_⟩
    have hkl:kvs.length=X.orders.length:=(Paired.length hk2).symm
    have sD:Same H6 (upd H6 D (.lst [V.int 0,V.int (kvs.length:Int)])):=Same.new nD
    obtain⟨qv,hqv,_⟩:=hT6.provs;have nDH:H D=none:=Same.free (H:=H) (H':=H') (fun b o h=>kpH b o h) (nn6 D nD)
    refine k A _ D (by rw [step];exact hT6.same sD) (.inl rfl) (fun b o h z1 z2=>?_) nDH ?_ (Ne.symm (nN hqv nD))
    ·refine sD _ _ (kp6 _ _ (kpH _ _ h) fun C dx a b c d e=>?_)
     rw [e] at z2;exact absurd z2 (by simp [keepK,aZ])
    ·rw [step,uS,hkl];rfl
   ·rw [if_pos (by have:=List.length_pos_iff.mpr c;omega)]
    rw [if_neg c] at step;refine⟨W,X.wrong,rfl,⟨ws,hW',hwp⟩,fun D H6 s6 nD hD=>?_⟩
    refine k.same hT (fun b o h=>s6 _ _ (kpH _ _ h)) step ?_ ?_
    ·exact Same.free (H:=H) (H':=H') (fun b o h=>kpH b o h) nD
    ·rw [hD];unfold bv Vbsoac.ints;rw [List.map_map];rfl
abbrev bd (t:Table):Vbsoaa.Board:=boardOf t.map
theorem kind_eq (t:Table)(p:Nat):Vbsoaa.kind (bd t) p=(provAt t.map p).kind:=by
 unfold Vbsoaa.kind provAt;show(t.map.provinces.map fun p=>p.kind).getD p 0=_
 rw [List.getD_eq_getElem?_getD,List.getD_eq_getElem?_getD,List.getElem?_map];cases t.map.provinces[p]? <;> rfl
theorem linked_mem {l:List (Nat×Nat)}{x y:Nat}(h:linked l x y=true):∃ e∈l,(e.1=x/\e.2=y)\/(e.1=y/\e.2=x):=by
 unfold linked at h;obtain⟨e,he,h⟩:=List.any_eq_true.mp h;refine⟨e,he,?_⟩
 simpa using h
theorem reach_fleet {t:Table}(wf:WF t){x q:Nat}(hq:q < aF t):decide (0 < (bN t x q).length)=([0,1,2,3].any fun u=>linked t.map.sea x (place q u)):=by
 refine Bool.eq_iff_iff.mpr ?_
 rw [decide_eq_true_eq,List.length_pos_iff_exists_mem,List.any_eq_true];constructor
 ·rintro ⟨u,hu⟩
  obtain⟨h1,h2⟩:=List.mem_filter.mp hu;have:=shores4 wf hq
  have h3:=List.mem_range.mp h1;refine⟨u,?_,h2⟩
  have:u=0\/u=1\/u=2\/u=3:=by omega
  rcases this with rfl | rfl | rfl | rfl <;> simp
 ·rintro ⟨u,hu,h⟩
  have u4:u < 4:=by
   have:u=0\/u=1\/u=2\/u=3:=by simpa using hu
   omega
  obtain⟨e,he,hh⟩:=linked_mem h
  have ok:PlaceOk t (place q u):=by
   rcases hh with z | z
   ·rw [<-z.2];exact(wf.seas e he).2
   ·rw [<-z.1];exact(wf.seas e he).1
  have h2:=ok.2;unfold place at h2;rw [show(4*q+u) % 4=u by omega,show(4*q+u) / 4=q by omega] at h2
  exact⟨u,List.mem_filter.mpr ⟨List.mem_range.mpr h2,h⟩⟩
theorem reach_army {t:Table}(wf:WF t)(p q:Nat):(Vbsoaa.kind (bd t) q != 1&&linked t.map.land p q)=linked t.map.land p q:=by
 cases h:linked t.map.land p q with
 | false=>rw [Bool.and_false]
 | true =>
  obtain⟨e,he,hh⟩:=linked_mem h;have:=wf.lands e he
  rw [kind_eq,Bool.and_true];rcases hh with z | z
  ·rw [<-z.2];simpa using this.2.1
  ·rw [<-z.1];simpa using this.1
theorem fP {t:Table}{p:Nat}{u:Man}(hT:TabAt K P w ad H tb A t)(hm:manAt t.men p=some u) :
  u.prov=p/\ManOk t u/\∃ a dx o,DGet H A.un (.int (p:Int)) (some (.ref a))/\H a=some (.ins ad.cUnit dx (aZ (.int (u.power:Int)) (.int ((bit u.fleet:Nat):Int)) (.int (u.shore:Int)) (.ref o)))/\SqT K H o (bv (orderNumbers u.order)):=by
 obtain⟨kvs,g1,g2,g3⟩:=unit_get hT p;rcases g3 with ⟨gm,gv⟩ | ⟨m,a,gm,gp,gmem,gv,dx,o,u1,u2⟩
 ·rw [hm] at gm;cases gm
 ·have e:m=u:=Option.some.inj (gm.symm.trans hm)
  subst e;exact⟨gp,hT.wf.man m gmem,a,dx,o,by rw [<-gv];exact DGet.k (k:=Sum.inl (p:Int)) g1,u1,u2⟩
theorem unit_in {t:Table}(hT:TabAt K P w ad H tb A t)(p:Nat):∃ o,DGet H A.un (.int (p:Int)) o/\o.isSome=(manAt t.men p).isSome:=by
 obtain⟨kvs,g1,g2,g3⟩:=unit_get hT p;refine⟨_,DGet.k (k:=Sum.inl (p:Int)) g1,?_⟩
 rcases g3 with ⟨gm,gv⟩ | ⟨m,a,gm,gp,gmem,gv,_⟩
 ·rw [gm,gv];rfl
 ·rw [gm,gv];rfl
def canGo (t:Table)(u:Man)(q:Nat)(wt:Bool):Bool:=(!wt&&reaches (bd t) u q)||(decide ((provAt t.map u.prov).kind=2)&&decide ((provAt t.map q).kind=2))
def wMove (t:Table)(u:Man)(q s:Nat)(wt:Bool):Nat:=if q=u.prov then 1 else if (if u.fleet=true then(!wt&&linked t.map.sea (place u.prov u.shore) (place q s)) else canGo t u q wt)=true then 0 else 2
def wHelp (t:Table)(u:Man)(st gl:Nat):Nat:=if reaches (bd t) u gl=false then 3 else if (manAt t.men st).isSome=false then 7 else 0
def wStay (t:Table)(u:Man)(st:Nat):Nat:=if st=u.prov then 4 else wHelp t u st st
def wAid (t:Table)(u:Man)(st gl:Nat):Nat:=if st=u.prov\/gl=u.prov\/st=gl then 4 else wHelp t u st gl
def wCarry (t:Table)(u:Man)(st gl:Nat):Nat:=if (provAt t.map u.prov).kind≠1 then 5 else if st=gl then 6 else match manAt t.men st with
 | none=>7
 | some x=>if x.fleet=true then 8 else 0
def wOrd (t:Table)(u:Man):Vbsoaa.Order->Nat
 | .hold=>0
 | .move q s wt=>wMove t u q s wt
 | .stay st=>wStay t u st
 | .aid st gl=>wAid t u st gl
 | .carry st gl=>wCarry t u st gl
theorem why_eq {t:Table}{u:Man}(ok:ManOk t u):Vbsoac.why (bd t) t.men u=wOrd t u u.order:=by
 unfold Vbsoac.why Vbsoaa.counts;cases ho:u.order with
 | hold=>rfl
 | move q s wt =>
  show _=wMove t u q s wt
  unfold wMove canGo;dsimp only;by_cases c:q=u.prov
  ·rw [if_pos c,if_pos c]
  rw [if_neg c,if_neg c];cases hf:u.fleet with
  | true =>
   cases wt <;> cases hl:linked t.map.sea (place u.prov u.shore) (place q s) <;> simp [hl,c,Vbsoac.isHold,boardOf]
  | false =>
   cases wt <;> by_cases hr:reaches (bd t) u q=true <;> by_cases k1:(provAt t.map u.prov).kind=2 <;> by_cases k2:(provAt t.map q).kind=2 <;> simp [hr,c,Vbsoac.isHold,kind_eq,k1,k2]
 | stay st =>
  show _=wStay t u st
  unfold wStay wHelp;dsimp only;by_cases c:st=u.prov
  ·rw [if_pos c,if_pos c]
  rw [if_neg c,if_neg c];by_cases hr:reaches (bd t) u st=true <;> cases hm:manAt t.men st <;> simp [hr,c,Vbsoac.isHold]
 | aid st gl =>
  show _=wAid t u st gl
  unfold wAid wHelp;dsimp only;by_cases c:st=u.prov\/gl=u.prov\/st=gl
  ·rw [if_pos c,if_pos c]
  rw [if_neg c,if_neg c];have c1:¬ st=u.prov:=fun z=>c (.inl z)
  have c2:¬ gl=u.prov:=fun z=>c (.inr (.inl z))
  have c3:¬ st=gl:=fun z=>c (.inr (.inr z))
  by_cases hr:reaches (bd t) u gl=true <;> cases hm:manAt t.men st <;> simp [hr,c1,c2,c3,Vbsoac.isHold]
 | carry st gl =>
  show _=wCarry t u st gl
  unfold wCarry;dsimp only;by_cases k:(provAt t.map u.prov).kind=1
  ·have hf:u.fleet=true:=by
    cases z:u.fleet with
    | true=>rfl
    | false=>exact absurd k (ok.army z).2
   rw [hf,kind_eq,k];simp
   rfl
  ·rw [kind_eq];simp [k]
def AskU (K:W.Frag)(P:Program)(w:World)(ad:Adr)(H:Hp)(tb:Addr)(p:Nat)(u:Man)(t:Table)(A:TAd):Prop:=TabAt K P w ad H tb A t/\manAt t.men p=some u
theorem AskU.same {H H':Hp}{p:Nat}{u:Man}{t:Table}(h:AskU K P w ad H tb p u t A)(s:Same H H'):AskU K P w ad H' tb p u t A:=⟨h.1.same s,h.2⟩
def sp_reaches:SP:=fun K P w ad vs H Q _=>∃ (tb:Addr)(A:TAd)(t:Table)(p q:Nat)(u:Man),vs=[.ref tb,.int p,.int q]/\AskU K P w ad H tb p u t A/\q < aF t/\∀ H',Same H H'->Q (.bl (reaches (bd t) u q)) H'
def sp_army_can_go:SP:=fun K P w ad vs H Q _=>∃ (tb:Addr)(A:TAd)(t:Table)(p q:Nat)(wt:Bool)(u:Man),vs=[.ref tb,.int p,.int q,.int (bit wt:Nat)]/\AskU K P w ad H tb p u t A/\q < aF t/\∀ H',Same H H'->Q (.bl (canGo t u q wt)) H'
def sp_why_of_move:SP:=fun K P w ad vs H Q _=>∃ (tb:Addr)(A:TAd)(t:Table)(p q s:Nat)(wt:Bool)(u:Man),vs=[.ref tb,.int p,.int q,.int s,.int (bit wt:Nat)]/\AskU K P w ad H tb p u t A/\q < aF t/\s < 4/\∀ H',Same H H'->Q (.int (wMove t u q s wt:Nat)) H'
def sp_why_of_help:SP:=fun K P w ad vs H Q _=>∃ (tb:Addr)(A:TAd)(t:Table)(p st gl:Nat)(u:Man),vs=[.ref tb,.int p,.int st,.int gl]/\AskU K P w ad H tb p u t A/\gl < aF t/\∀ H',Same H H'->Q (.int (wHelp t u st gl:Nat)) H'
def sp_why_of_support:SP:=fun K P w ad vs H Q _=>∃ (tb:Addr)(A:TAd)(t:Table)(p st:Nat)(u:Man),vs=[.ref tb,.int p,.int st]/\AskU K P w ad H tb p u t A/\st < aF t/\∀ H',Same H H'->Q (.int (wStay t u st:Nat)) H'
def fA:SP:=fun K P w ad vs H Q _=>∃ (tb:Addr)(A:TAd)(t:Table)(p st gl:Nat)(u:Man),vs=[.ref tb,.int p,.int st,.int gl]/\AskU K P w ad H tb p u t A/\gl < aF t/\∀ H',Same H H'->Q (.int (wAid t u st gl:Nat)) H'
def kP:SP:=fun K P w ad vs H Q _=>∃ (tb:Addr)(A:TAd)(t:Table)(p st gl:Nat)(u:Man),vs=[.ref tb,.int p,.int st,.int gl]/\AskU K P w ad H tb p u t A/\Q (.int (wCarry t u st gl:Nat)) H
def sp_why_of_order:SP:=fun K P w ad vs H Q _=>∃ (tb:Addr)(A:TAd)(t:Table)(p:Nat)(u:Man),vs=[.ref tb,.int p]/\AskU K P w ad H tb p u t A/\∀ H',Same H H'->Q (.int (Vbsoac.why (bd t) t.men u:Nat)) H'
theorem aL {l:Bytes}{i v:Nat}(h:l[i]?=some v):atI (bv l) (i:Int)=some (.int (v:Int)):=aV (j:=i) (by unfold bv;rw [List.getElem?_map,h];rfl)
abbrev O_reaches:=DO "reaches" 4 ["table","p","q"] sp_reaches
theorem ok_reaches (F:Fun K "reaches" "reaches" st_reaches f fd)(T:Txt K mg ad)(D_Table_has_land_link:iJ P w K mg base ad)(D_Table_linked_shores:dY P w K mg base ad):FnOk P w K mg base CX0 4 f fd ["table","p","q"] (sp_reaches K P w ad):=by
 refine F.ok sc_reaches (fun vs H Q E h=>?_) (fun _ A _ s H vs Q E hr h=>?_)
 ·obtain⟨tb,A,t,p,q,u,rfl,_⟩:=h;rfl
 ·obtain⟨tb,A,t,p,q,u,rfl,⟨hT,hm⟩,hq,k⟩:=h;have hu:=iI hr;obtain⟨hp,ok,a,dx,o,hg,u1,u2⟩:=fP hT hm;have s4:u.shore < 4:=Nat.lt_of_lt_of_le ok.shore (shores4 hT.wf ok.prov)
  refine⟨_,(sC (aD (i:=3) sc_reaches.nd rfl (Or.inl rfl) (hG hu (eF (pv 0) rfl) (pv 1) (fun _ _=>rfl)))
   (sC (aB (tR aM (eF (pv 3) rfl) (eG rfl T.g_FLEET) (nMk _)) (sO (sR (eB op_gt (aR T.n_len (pC (aH (pv 0) T.cl_Table D_Table_linked_shores hr (pC (eM (pC (pv 1) (pC (eF (pv 3) rfl) pN))) (pC (pv 2) pN))) pN)) eJ (nMk _)))) sN)
   (sO (sR (aH (pv 0) T.cl_Table D_Table_has_land_link hr (pC (pv 1) (pC (pv 2) pN))))))),?_⟩
  walk_at "s1";refine⟨_,_,_,hT.obj,T.cl_Table,T.nf_Table_units,_,aE,_,rfl,_,hg,?_⟩
  walk_at "c1";walk_at "rd";refine⟨_,_,_,u1,T.cl_Unit,T.nf_Unit_fleet,_,bO,rfl,?_⟩
  unfold reaches at k;cases hf:u.fleet with
  | true =>
   rw [if_pos (by rfl)]
   rw [hf,if_pos rfl] at k;refine⟨_,_,hT.obj,fL,_,_,_,u1,T.cl_Unit,T.nf_Unit_shore,_,eZ,by show 2<=sizeLine;decide,fun y hy=>?_⟩
   have s1:=Same.new (o:=.tup [V.int (p:Int),V.int (u.shore:Int)]) hy
   refine⟨tb,y,A,t,place u.prov u.shore,q,rfl,hT.same s1,?_,hq,fun D H2 s2 nD hD=>?_⟩
   ·show upd _ y _ y=_
    rw [uS,gE s4,hp]
   refine⟨_,rfl,_,.inl (SqL.of hD),?_⟩
   have:=k H2 (s1.trans s2)
   rw [show(boardOf t.map).sea=t.map.sea from rfl,<-reach_fleet hT.wf hq] at this
   rw [aG];have e:decide (0 < ((bN t (place u.prov u.shore) q).length:Int))=decide (0 < (bN t (place u.prov u.shore) q).length):=decide_eq_decide.mpr (by omega)
   rw [e];exact this
  | false =>
   rw [if_neg (by intro z;exact absurd (V.int.inj z) (by decide))]
   rw [hf,if_neg (by decide),show(boardOf t.map).land=t.map.land from rfl] at k
   refine⟨_,_,hT.obj,f_Table_no_has_land_link,tb,A,t,p,q,rfl,hT,fun H1 s1=>?_⟩
   have:=k H1 s1
   rw [hp,reach_army hT.wf] at this;exact this
abbrev O_army_can_go:=DO "army_can_go" 5 ["table","p","q","by_water"] sp_army_can_go
theorem ok_army_can_go (F:Fun K "army_can_go" "army_can_go" kM f fd)(T:Txt K mg ad)(D_Table_has_kind:cE P w K mg base ad)(D_reaches:O_reaches P w K mg base ad):FnOk P w K mg base CX0 5 f fd ["table","p","q","by_water"] (sp_army_can_go K P w ad):=by
 refine F.ok sc_army_can_go (fun vs H Q E h=>?_) (fun _ A _ s H vs Q E hr h=>?_)
 ·obtain⟨tb,A,t,p,q,wt,u,rfl,_⟩:=h;rfl
 ·obtain⟨tb,A,t,p,q,wt,u,rfl,hA,hq,k⟩:=h;obtain⟨hp,ok,a,dx,o,hg,u1,u2⟩:=fP hA.1 hA.2
  refine⟨_,(sC (aB (PW.pt (iS (tR aM (pv 3) eJ (nMk _)) (gZ (aX (eD D_reaches hr (pC (pv 0) (pC (pv 1) (pC (pv 2) pN)))))))) (sO (sR pe_bl)) sN)
   (sO (sR (pe_and (aH (pv 0) T.cl_Table D_Table_has_kind hr (pC (pv 1) (pC (eG rfl T.g_COAST) pN))) (jO (aH (pv 0) T.cl_Table D_Table_has_kind hr (pC (pv 2) (pC (eG rfl T.g_COAST) pN)))))))),?_⟩
  have last:∀ H1,Same H H1->(!wt&&reaches (bd t) u q)=false->eA K P w ad [V.ref tb,V.int (p:Int),V.int 2] H1 (fun x H1=>∃ c,x=V.bl c/\if c=true then ∃ x x_1,H1 tb=some (HO.ins ad.cTable x x_1)/\List.lookup ("has_kind" : Str) x_1=none/\eA K P w ad [V.ref tb,V.int (q:Int),V.int 2] H1 Q E0 else Q (V.bl false) H1) E0:=fun H1 s1 c=>by
   have hT1:=hA.1.same s1;refine⟨tb,A,t,p,2,rfl,hT1,by rw [<-hp];exact ok.prov,_,rfl,?_⟩
   have k':=k H1 s1;unfold canGo at k';rw [c,Bool.false_or,hp] at k';by_cases c2:(provAt t.map p).kind=2
   ·rw [if_pos (decide_eq_true c2)];rw [decide_eq_true c2,Bool.true_and] at k';exact⟨_,_,hT1.obj,aJ,tb,A,t,q,2,rfl,hT1,hq,k'⟩
   ·rw [if_neg (by simpa using c2)]
    rw [decide_eq_false c2,Bool.false_and] at k';exact k'
  walk_at "s1";refine⟨rfl,?_⟩
  cases wt with
  | true =>
   rw [if_neg (by decide),if_neg (by decide),e1];walk_at "rd";exact⟨_,_,hA.1.obj,aJ,last H (Same.refl _) rfl⟩
  | false =>
   rw [if_pos (by rfl)]
   refine⟨tb,A,t,p,q,u,rfl,hA,hq,fun H1 s1=>⟨_,rfl,?_⟩⟩
   cases c:reaches (bd t) u q with
   | true =>
    rw [if_pos rfl];have k':=k H1 s1;unfold canGo at k';rw [c] at k';exact k'
   | false =>
    rw [if_neg (by decide),e1];walk_at "rd";exact⟨_,_,(s1 _ _ hA.1.obj),aJ,last H1 s1 (by rw [c];rfl)⟩
abbrev O_why_of_move:=DO "why_of_move" 6 ["table","p","q","shore","by_water"] sp_why_of_move
theorem ok_why_of_move (F:Fun K "why_of_move" "why_of_move" kG f fd)(T:Txt K mg ad)(D_Table_has_sea_link:eV P w K mg base ad)(D_army_can_go:O_army_can_go P w K mg base ad):FnOk P w K mg base CX0 6 f fd ["table","p","q","shore","by_water"] (sp_why_of_move K P w ad):=by
 refine F.ok sc_why_of_move (fun vs H Q E h=>?_) (fun _ A _ s H vs Q E hr h=>?_)
 ·obtain⟨tb,A,t,p,q,s,wt,u,rfl,_⟩:=h;rfl
 ·obtain⟨tb,A,t,p,q,s',wt,u,rfl,hA,hq,hs,k⟩:=h;have hu:=iI hr;obtain⟨hp,ok,a,dx,o,hg,u1,u2⟩:=fP hA.1 hA.2;have s4:u.shore < 4:=Nat.lt_of_lt_of_le ok.shore (shores4 hA.1.wf ok.prov)
  refine⟨_,(sC (aD (i:=5) sc_why_of_move.nd rfl (Or.inl rfl) (hG hu (eF (pv 0) rfl) (pv 1) (fun _ _=>rfl)))
   (sC (aB (tR aM (pv 2) (pv 1) (nMk _)) (sO (sR (eG rfl T.g_TO_OWN_PROVINCE))) sN)
   (sC (aB (tR aM (eF (pv 5) rfl) (eG rfl T.g_FLEET) (nMk _)) (sO (aD (i:=6) sc_why_of_move.nd rfl (Or.inl rfl) (pe_and (eB aM (pv 4) eJ (nMk _)) (jO (aH (pv 0) T.cl_Table D_Table_has_sea_link hr (pC (eM (pC (pv 1) (pC (eF (pv 5) rfl) pN))) (pC (eM (pC (pv 2) (pC (pv 3) pN))) pN))))))) (sO (aD (i:=6) sc_why_of_move.nd rfl (Or.inl rfl) (eD D_army_can_go hr (pC (pv 0) (pC (pv 1) (pC (pv 2) (pC (pv 4) pN))))))))
   (sO (sR (pe_ifExp (aX (pv 6)) (eG rfl T.g_COUNTS) (eG rfl T.g_NO_WAY))))))),?_⟩
  walk_at "s1";refine⟨_,_,_,hA.1.obj,T.cl_Table,T.nf_Table_units,_,aE,_,rfl,_,hg,?_⟩
  walk_at "c1";unfold wMove at k;walk_at "s2";refine⟨rfl,?_⟩
  by_cases c1:q=u.prov
  ·rw [if_pos (by rw [c1,hp])]
   rw [if_pos c1] at k;exact k H (Same.refl _)
  rw [if_neg (by omega),e2];clear e2 k2;rw [if_neg c1] at k;walk_at "s3";refine⟨_,_,_,u1,T.cl_Unit,T.nf_Unit_fleet,_,bO,rfl,?_⟩
  have last:∀ (c:Bool) H1,Same H H1->c=(if u.fleet=true then(!wt&&linked t.map.sea (place u.prov u.shore) (place q s')) else canGo t u q wt)->k3 [some (V.ref tb),some (V.int (p:Int)),some (V.int (q:Int)),some (V.int (s':Int)),some (V.int ((bit wt:Nat):Int)),some (V.ref a),some (V.bl c)] H1:=fun c H1 s1 e=>by
   rw [e3];walk_at "rd";have k':=k H1 s1;rw [<-e] at k';cases c with
   | true=>exact k'
   | false=>exact k'
  cases hf:u.fleet with
  | true =>
   rw [if_pos (by rfl)]
   rw [hf] at last;refine⟨rfl,?_⟩
   cases wt with
   | true =>
    rw [if_neg (by decide)];exact last false H (Same.refl _) rfl
   | false =>
    rw [if_pos (by rfl)]
    refine⟨_,_,hA.1.obj,gK,_,_,_,u1,T.cl_Unit,T.nf_Unit_shore,_,eZ,by show 2<=sizeLine;decide,fun y1 n1=>⟨by show 2<=sizeLine;decide,fun y2 n2=>?_⟩⟩
    have s1:Same H (upd (upd H y1 (.tup [V.int (p:Int),V.int (u.shore:Int)])) y2 (.tup [V.int (q:Int),V.int (s':Int)])):=(Same.new n1).trans (Same.new n2)
    refine⟨tb,y1,y2,A,t,place u.prov u.shore,place q s',rfl,hA.1.same s1,?_,?_,fun H2 s2=>?_⟩
    ·show upd _ y2 _ y1=_
     rw [uN (fun e=>by rw [<-e,uS] at n2;cases n2),uS,gE s4,hp]
    ·show upd _ y2 _ y2=_
     rw [uS,gE hs]
    ·exact last _ H2 (s1.trans s2) rfl
  | false =>
   rw [if_neg (by intro z;exact absurd (V.int.inj z) (by decide))]
   rw [hf] at last;exact⟨tb,A,t,p,q,wt,u,rfl,hA,hq,fun H1 s1=>last _ H1 s1 rfl⟩
abbrev O_why_of_help:=DO "why_of_help" 5 ["table","p","start","goal"] sp_why_of_help
theorem ok_why_of_help (F:Fun K "why_of_help" "why_of_help" kH f fd)(T:Txt K mg ad)(D_reaches:O_reaches P w K mg base ad):FnOk P w K mg base CX0 5 f fd ["table","p","start","goal"] (sp_why_of_help K P w ad):=by
 refine F.ok sc_why_of_help (fun vs H Q E h=>?_) (fun _ A _ s H vs Q E hr h=>?_)
 ·obtain⟨tb,A,t,p,st,gl,u,rfl,_⟩:=h;rfl
 ·obtain⟨tb,A,t,p,st,gl,u,rfl,hA,hq,k⟩:=h;have hu:=iI hr
  refine⟨_,(sC (aB (gB (aX (eD D_reaches hr (pC (pv 0) (pC (pv 1) (pC (pv 3) pN)))))) (sO (sR (eG rfl T.g_OUT_OF_REACH))) sN)
   (sC (aB (hE (pc_dnotin hu (pv 2) (eF (pv 0) rfl))) (sO (sR (eG rfl T.g_NO_UNIT_THERE))) sN)
   (sO (sR (eG rfl T.g_COUNTS))))),?_⟩
  unfold wHelp at k;walk_at "s1";refine⟨tb,A,t,p,gl,u,rfl,hA,hq,fun H1 s1=>⟨_,rfl,?_⟩⟩
  cases c:reaches (bd t) u gl with
  | false =>
   rw [if_pos rfl];rw [if_pos c] at k;exact k H1 s1
  | true =>
   rw [if_neg (by decide),e1];rw [if_neg (by rw [c];decide)] at k
   walk_at "rd";have hT1:=hA.1.same s1;obtain⟨o,hg,ho⟩:=unit_in hT1 st;refine⟨_,_,_,hT1.obj,T.cl_Table,T.nf_Table_units,_,aE,_,rfl,_,hg,?_⟩
   rw [ho];cases c2:(manAt t.men st).isSome with
   | false =>
    rw [if_pos rfl];rw [if_pos c2] at k;exact k H1 s1
   | true =>
    rw [if_neg (by decide)];rw [if_neg (by rw [c2];decide)] at k
    exact k H1 s1
abbrev O_why_of_support:=DO "why_of_support" 6 ["table","p","start"] sp_why_of_support
theorem ok_why_of_support (F:Fun K "why_of_support" "why_of_support" gO f fd)(T:Txt K mg ad)(D_why_of_help:O_why_of_help P w K mg base ad):FnOk P w K mg base CX0 6 f fd ["table","p","start"] (sp_why_of_support K P w ad):=by
 refine F.ok sc_why_of_support (fun vs H Q E h=>?_) (fun _ A _ s H vs Q E hr h=>?_)
 ·obtain⟨tb,A,t,p,st,u,rfl,_⟩:=h;rfl
 ·obtain⟨tb,A,t,p,st,u,rfl,hA,hq,k⟩:=h;obtain⟨hp,_⟩:=fP hA.1 hA.2
  refine⟨_,(sC (aB (tR aM (pv 2) (pv 1) (nMk _)) (sO (sR (eG rfl T.g_OWN_OR_SAME_PROVINCE))) sN)
   (sO (sR (eD D_why_of_help hr (pC (pv 0) (pC (pv 1) (pC (pv 2) (pC (pv 2) pN)))))))),?_⟩
  unfold wStay at k;walk_at "rd";refine⟨rfl,?_⟩
  by_cases c:st=u.prov
  ·rw [if_pos (by rw [c,hp])]
   rw [if_pos c] at k;exact k H (Same.refl _)
  ·rw [if_neg (by omega)];rw [if_neg c] at k;exact⟨tb,A,t,p,st,st,u,rfl,hA,hq,k⟩
abbrev fN:=DO "why_of_support_of_move" 6 ["table","p","start","goal"] fA
theorem ok_why_of_support_of_move (F:Fun K "why_of_support_of_move" "why_of_support_of_move" cN f fd)(T:Txt K mg ad)(D_why_of_help:O_why_of_help P w K mg base ad):FnOk P w K mg base CX0 6 f fd ["table","p","start","goal"] (fA K P w ad):=by
 refine F.ok sc_why_of_support_of_move (fun vs H Q E h=>?_) (fun _ A _ s H vs Q E hr h=>?_)
 ·obtain⟨tb,A,t,p,st,gl,u,rfl,_⟩:=h;rfl
 ·obtain⟨tb,A,t,p,st,gl,u,rfl,hA,hq,k⟩:=h;obtain⟨hp,_⟩:=fP hA.1 hA.2
  refine⟨_,(sC (aB (PW.pt (pw_or (tR aM (pv 2) (pv 1) (nMk _)) (pw_or (tR aM (pv 3) (pv 1) (nMk _)) (pw_or1 (tR aM (pv 2) (pv 3) (nMk _)))))) (sO (sR (eG rfl T.g_OWN_OR_SAME_PROVINCE))) sN)
   (sO (sR (eD D_why_of_help hr (pC (pv 0) (pC (pv 1) (pC (pv 2) (pC (pv 3) pN)))))))),?_⟩
  unfold wAid at k;walk_at "s1";refine⟨rfl,?_⟩
  by_cases c1:st=u.prov
  ·rw [if_pos (by rw [c1,hp]),if_pos trivial]
   rw [if_pos (.inl c1)] at k;exact k H (Same.refl _)
  rw [if_neg (by omega)];refine⟨rfl,?_⟩
  by_cases c2:gl=u.prov
  ·rw [if_pos (by rw [c2,hp]),if_pos trivial]
   rw [if_pos (.inr (.inl c2))] at k;exact k H (Same.refl _)
  rw [if_neg (by omega)];refine⟨rfl,?_⟩
  by_cases c3:st=gl
  ·rw [if_pos (by rw [c3])]
   rw [if_pos (.inr (.inr c3))] at k;exact k H (Same.refl _)
  rw [if_neg (by omega),e1];rw [if_neg (by intro z;rcases z with z | z | z;exact c1 z;exact c2 z;exact c3 z)] at k
  walk_at "rd";exact⟨tb,A,t,p,st,gl,u,rfl,hA,hq,k⟩
abbrev O_why_of_carrying:=DO "why_of_carrying" 2 ["table","p","start","goal"] kP
theorem ok_why_of_carrying (F:Fun K "why_of_carrying" "why_of_carrying" fU f fd)(T:Txt K mg ad)(D_Table_has_kind:cE P w K mg base ad):FnOk P w K mg base CX0 2 f fd ["table","p","start","goal"] (kP K P w ad):=by
 refine F.ok sc_why_of_carrying (fun vs H Q E h=>?_) (fun _ A _ s H vs Q E hr h=>?_)
 ·obtain⟨tb,A,t,p,st,gl,u,rfl,_⟩:=h;rfl
 ·obtain⟨tb,A,t,p,st,gl,u,rfl,⟨hT,hm⟩,k⟩:=h;have hu:=iI hr;obtain⟨hp,ok,_⟩:=fP hT hm
  refine⟨_,(sC (aB (gB (aX (aH (pv 0) T.cl_Table D_Table_has_kind hr (pC (pv 1) (pC (eG rfl T.g_SEA) pN))))) (sO (sR (eG rfl T.g_NO_FLEET_AT_SEA))) sN)
   (sC (aB (tR aM (pv 2) (pv 3) (nMk _)) (sO (sR (eG rfl T.g_CARRIED_NOWHERE))) sN)
   (sC (aB (hE (pc_dnotin hu (pv 2) (eF (pv 0) rfl))) (sO (sR (eG rfl T.g_NO_UNIT_THERE))) sN)
   (sC (aB (tR aM (eF (hG hu (eF (pv 0) rfl) (pv 2) (fun _ _=>rfl)) rfl) (eG rfl T.g_FLEET) (nMk _)) (sO (sR (eG rfl T.g_FLEET_CARRIED))) sN)
   (sO (sR (eG rfl T.g_COUNTS))))))),?_⟩
  unfold wCarry at k;rw [hp] at k;walk_at "s1";refine⟨_,_,hT.obj,aJ,tb,A,t,p,1,rfl,hT,by rw [<-hp];exact ok.prov,_,rfl,?_⟩
  by_cases c1:(provAt t.map p).kind=1
  ·rw [if_neg (by simpa using c1),e1]
   clear e1 k1;rw [if_neg (by simpa using c1)] at k
   walk_at "s2";refine⟨rfl,?_⟩
   by_cases c2:st=gl
   ·rw [if_pos (by rw [c2])]
    rw [if_pos c2] at k;exact k
   rw [if_neg (by omega),e2];clear e2 k2;rw [if_neg c2] at k;walk_at "s3";obtain⟨o,hg,ho⟩:=unit_in hT st;refine⟨_,_,_,hT.obj,T.cl_Table,T.nf_Table_units,_,aE,_,rfl,_,hg,?_⟩
   rw [ho];cases c3:manAt t.men st with
   | none =>
    rw [Option.isSome_none,if_pos rfl];rw [c3] at k;exact k
   | some x =>
    rw [Option.isSome_some,if_neg (by decide),e3];rw [c3] at k;replace k:Q (.int ((if x.fleet=true then 8 else 0:Nat):Int)) H:=k
    obtain⟨_,_,a,dx,o',hg2,u1,_⟩:=fP hT c3;walk_at "rd";refine⟨_,_,_,hT.obj,T.cl_Table,T.nf_Table_units,_,aE,_,rfl,_,hg2,_,rfl,_,_,_,u1,T.cl_Unit,T.nf_Unit_fleet,_,bO,rfl,?_⟩
    cases hf:x.fleet with
    | true =>
     rw [if_pos (by rfl)]
     rw [hf] at k;exact k
    | false =>
     rw [if_neg (by intro z;exact absurd (V.int.inj z) (by decide))]
     rw [hf] at k;exact k
  ·rw [if_pos (by simpa using c1)]
   rw [if_pos c1] at k;exact k
abbrev O_why_of_order:=DO "why_of_order" 7 ["table","p"] sp_why_of_order
theorem ok_why_of_order (F:Fun K "why_of_order" "why_of_order" jH f fd)(T:Txt K mg ad)(D_why_of_carrying:O_why_of_carrying P w K mg base ad)(D_why_of_support_of_move:fN P w K mg base ad)(D_why_of_support:O_why_of_support P w K mg base ad)(D_why_of_move:O_why_of_move P w K mg base ad):FnOk P w K mg base CX0 7 f fd ["table","p"] (sp_why_of_order K P w ad):=by
 refine F.ok sc_why_of_order (fun vs H Q E h=>?_) (fun _ A _ s H vs Q E hr h=>?_)
 ·obtain⟨tb,A,t,p,u,rfl,_⟩:=h;rfl
 ·obtain⟨tb,A,t,p,u,rfl,hA,k⟩:=h;have hu:=iI hr;obtain⟨hp,ok,a,dx,o,hg,u1,u2⟩:=fP hA.1 hA.2;rw [why_eq ok] at k
  refine⟨_,(sC (aD (i:=2) sc_why_of_order.nd rfl (Or.inl rfl) (eF (hG hu (eF (pv 0) rfl) (pv 1) (fun _ _=>rfl)) rfl))
   (sC (aB (tR aM (aN cI (pv 2) eJ (fun _ _=>rfl)) (eG rfl T.g_MOVE) (nMk _)) (sO (sR (eD D_why_of_move hr (pC (pv 0) (pC (pv 1) (pC (aN cI (pv 2) eJ (fun _ _=>rfl)) (pC (aN cI (pv 2) eJ (fun _ _=>rfl)) (pC (aN cI (pv 2) eJ (fun _ _=>rfl)) pN)))))))) sN)
   (sC (aB (tR aM (aN cI (pv 2) eJ (fun _ _=>rfl)) (eG rfl T.g_SUPPORT) (nMk _)) (sO (sR (eD D_why_of_support hr (pC (pv 0) (pC (pv 1) (pC (aN cI (pv 2) eJ (fun _ _=>rfl)) pN)))))) sN)
   (sC (aB (tR aM (aN cI (pv 2) eJ (fun _ _=>rfl)) (eG rfl T.g_SUPPORT_OF_MOVE) (nMk _)) (sO (sR (eD D_why_of_support_of_move hr (pC (pv 0) (pC (pv 1) (pC (aN cI (pv 2) eJ (fun _ _=>rfl)) (pC (aN cI (pv 2) eJ (fun _ _=>rfl)) pN))))))) sN)
   (sC (aB (tR aM (aN cI (pv 2) eJ (fun _ _=>rfl)) (eG rfl T.g_CARRYING) (nMk _)) (sO (sR (eD D_why_of_carrying hr (pC (pv 0) (pC (pv 1) (pC (aN cI (pv 2) eJ (fun _ _=>rfl)) (pC (aN cI (pv 2) eJ (fun _ _=>rfl)) pN))))))) sN)
   (sO (sR (eG rfl T.g_COUNTS)))))))),?_⟩
  have oo:=ok.ord;walk_at "s1";refine⟨_,_,_,hA.1.obj,T.cl_Table,T.nf_Table_units,_,aE,_,rfl,_,hg,_,rfl,_,_,_,u1,T.cl_Unit,T.nf_Unit_order,_,f_Unit_order,?_⟩
  walk_at "c1";cases ho:u.order with
  | hold  =>
   rw [ho] at u2 k oo;walk_at "s2";refine⟨_,u2,_,aL (i:=0) rfl,rfl,?_⟩
   rw [if_neg (by intro z;exact absurd (V.int.inj z) (by decide)),e2]
   clear e2 k2;walk_at "s3";refine⟨_,u2,_,aL (i:=0) rfl,rfl,?_⟩
   rw [if_neg (by intro z;exact absurd (V.int.inj z) (by decide)),e3]
   clear e3 k3;walk_at "s4";refine⟨_,u2,_,aL (i:=0) rfl,rfl,?_⟩
   rw [if_neg (by intro z;exact absurd (V.int.inj z) (by decide)),e4]
   clear e4 k4;walk_at "s5";refine⟨_,u2,_,aL (i:=0) rfl,rfl,?_⟩
   rw [if_neg (by intro z;exact absurd (V.int.inj z) (by decide)),e5]
   clear e5 k5;walk_at "rd";exact k H (Same.refl _)
  | move q s wt =>
   rw [ho] at u2 k oo;walk_at "s2";refine⟨_,u2,_,aL (i:=0) rfl,rfl,?_⟩
   rw [if_pos (by rfl)]
   refine⟨_,u2,_,aL (i:=1) rfl,_,u2,_,aL (i:=2) rfl,_,u2,_,aL (i:=3) rfl,tb,A,t,p,q,s,wt,u,rfl,hA,oo.1,?_,k⟩
   have:=oo.2
   cases hf:u.fleet with
   | true =>
    rw [hf] at this;exact Nat.lt_of_lt_of_le this (shores4 hA.1.wf oo.1)
   | false =>
    rw [hf] at this;rw [show s=0 from this]
    decide
  | stay st =>
   rw [ho] at u2 k oo;walk_at "s2";refine⟨_,u2,_,aL (i:=0) rfl,rfl,?_⟩
   rw [if_neg (by intro z;exact absurd (V.int.inj z) (by decide)),e2]
   clear e2 k2;walk_at "s3";refine⟨_,u2,_,aL (i:=0) rfl,rfl,?_⟩
   rw [if_pos (by rfl)]
   exact⟨_,u2,_,aL (i:=1) rfl,tb,A,t,p,st,u,rfl,hA,oo,k⟩
  | aid st gl =>
   rw [ho] at u2 k oo;walk_at "s2";refine⟨_,u2,_,aL (i:=0) rfl,rfl,?_⟩
   rw [if_neg (by intro z;exact absurd (V.int.inj z) (by decide)),e2]
   clear e2 k2;walk_at "s3";refine⟨_,u2,_,aL (i:=0) rfl,rfl,?_⟩
   rw [if_neg (by intro z;exact absurd (V.int.inj z) (by decide)),e3]
   clear e3 k3;walk_at "s4";refine⟨_,u2,_,aL (i:=0) rfl,rfl,?_⟩
   rw [if_pos (by rfl)]
   exact⟨_,u2,_,aL (i:=1) rfl,_,u2,_,aL (i:=2) rfl,tb,A,t,p,st,gl,u,rfl,hA,oo.2,k⟩
  | carry st gl =>
   rw [ho] at u2 k oo;walk_at "s2";refine⟨_,u2,_,aL (i:=0) rfl,rfl,?_⟩
   rw [if_neg (by intro z;exact absurd (V.int.inj z) (by decide)),e2]
   clear e2 k2;walk_at "s3";refine⟨_,u2,_,aL (i:=0) rfl,rfl,?_⟩
   rw [if_neg (by intro z;exact absurd (V.int.inj z) (by decide)),e3]
   clear e3 k3;walk_at "s4";refine⟨_,u2,_,aL (i:=0) rfl,rfl,?_⟩
   rw [if_neg (by intro z;exact absurd (V.int.inj z) (by decide)),e4]
   clear e4 k4;walk_at "s5";refine⟨_,u2,_,aL (i:=0) rfl,rfl,?_⟩
   rw [if_pos (by rfl)]
   exact⟨_,u2,_,aL (i:=1) rfl,_,u2,_,aL (i:=2) rfl,tb,A,t,p,st,gl,u,rfl,hA,k H (Same.refl _)⟩
def gC (t:Table)(u:Man):List Nat:=orderNumbers u.order++[Vbsoac.why (bd t) t.men u]
theorem nums_len (o:Vbsoaa.Order):(orderNumbers o).length=4:=by cases o <;> rfl
theorem ints_bv (l:List Nat):(Vbsoac.ints l).map V.int=bv l:=by
 unfold Vbsoac.ints bv;rw [List.map_map];rfl
def sp_order_and_why:SP:=fun K P w ad vs H Q _=>∃ (tb:Addr)(A:TAd)(t:Table)(p:Nat)(u:Man),vs=[.ref tb,.int p]/\AskU K P w ad H tb p u t A/\∀ D H',Same H H'->H D=none->H' D=some (.lst (bv (gC t u)))->Q (.ref D) H'
def sp_tell_order:SP:=fun K P w ad vs H Q _=>∃ (tb:Addr)(A:TAd)(t:Table) (p:Int),vs=[.ref tb,.int p]/\TabAt K P w ad H tb A t/\PostL K P w ad tb A H t (.order p) Q
def sp_find_provinces:SP:=fun K P w ad vs H Q _=>∃ (tb a:Addr)(A:TAd)(t:Table)(x:List Int),vs=[.ref tb,.ref a]/\TabAt K P w ad H tb A t/\SqL K H a (x.map V.int)/\x.length<=3000/\PostL K P w ad tb A H t (.find x) Q
def sp_tell_orders:SP:=fun K P w ad vs H Q _=>∃ (tb:Addr)(A:TAd)(t:Table),vs=[.ref tb]/\TabAt K P w ad H tb A t/\PostL K P w ad tb A H t .orders Q
theorem men_at {t:Table}(wf:WF t){i:Nat}{m:Man}(h:t.men[i]?=some m):manAt t.men m.prov=some m:=hW wf.sorted (List.mem_of_getElem? h)
theorem flat_take {α β:Type}(f:α->List β){l:List α}{i:Nat}{x:α}(h:l[i]?=some x):(l.take (i+1)).flatMap f=(l.take i).flatMap f++f x:=by
 rw [cG h,List.flatMap_append];simp
theorem flat_le {α β:Type}{f:α->List β}{k:Nat}:∀ {l:List α},(∀ x∈l,(f x).length<=k)->(l.flatMap f).length<=l.length*k
 | [],_=>by simp
 | x::l,h=>by
  have ih:=flat_le (l:=l) fun y hy=>h y (List.mem_cons_of_mem _ hy)
  have hx:=h x List.mem_cons_self;rw [List.flatMap_cons,List.length_append,List.length_cons,Nat.succ_mul];omega
abbrev jQ:=DO "order_and_why" 8 ["table","p"] sp_order_and_why
theorem ok_order_and_why (F:Fun K "order_and_why" "order_and_why" iK f fd)(T:Txt K mg ad)(D_why_of_order:O_why_of_order P w K mg base ad):FnOk P w K mg base CX0 8 f fd ["table","p"] (sp_order_and_why K P w ad):=by
 refine F.ok sc_order_and_why (fun vs H Q E h=>?_) (fun _ A _ s H vs Q E hr h=>?_)
 ·obtain⟨tb,A,t,p,u,rfl,_⟩:=h;rfl
 ·obtain⟨tb,A,t,p,u,rfl,hA,k⟩:=h;have hu:=iI hr;obtain⟨hp,ok,a,dx,o,hg,u1,u2⟩:=fP hA.1 hA.2;refine⟨_,(sO (sR (pe_op op_cat (gI call_list_of rfl T.n_list PyProof.Rows.boot_list (pC (eF (hG hu (eF (pv 0) rfl) (pv 1) (fun _ _=>rfl)) rfl) pN)) (aT (pC (eD D_why_of_order hr (pC (pv 0) (pC (pv 1) pN))) pN))))),?_⟩
  walk_at "rd";refine⟨_,_,_,hA.1.obj,T.cl_Table,T.nf_Table_units,_,aE,_,rfl,_,hg,_,rfl,_,_,_,u1,T.cl_Unit,T.nf_Unit_order,_,f_Unit_order,_,rfl,_,.inr u2,fun L1 n1=>?_⟩
  have s1:Same H (upd H L1 (.lst (bv (orderNumbers u.order)))):=Same.new n1
  have hL1:upd H L1 (.lst (bv (orderNumbers u.order))) L1=some (.lst (bv (orderNumbers u.order))):=uS
  generalize upd H L1 (.lst (bv (orderNumbers u.order)))=H1 at s1 hL1 ⊢;refine⟨tb,A,t,p,u,rfl,hA.same s1,fun H2 s2=>⟨by show 1<=sizeLine;decide,fun L2 n2=>?_⟩⟩
  have s3:Same H2 (upd H2 L2 (.lst [V.int ((Vbsoac.why (bd t) t.men u:Nat):Int)])):=Same.new n2
  refine⟨L1,L2,_,_,rfl,rfl,s3 _ _ (s2 _ _ hL1),uS,?_,fun D nD=>?_⟩
  ·rw [aG,nums_len];show 4+1<=sizeLine
   decide
  ·have s4:=(s1.trans s2).trans s3;refine k D _ (s4.upd (s4.free nD)) (s4.free nD) ?_
   rw [uS];unfold gC;rw [bv_app];rfl
abbrev O_tell_order:=DO "tell_order" 9 ["table","p"] sp_tell_order
theorem ok_tell_order (F:Fun K "tell_order" "tell_order" st_tell_order f fd)(T:Txt K mg ad)(D_order_and_why:jQ P w K mg base ad)(D_Table_has_province:bV P w K mg base ad):FnOk P w K mg base CX0 9 f fd ["table","p"] (sp_tell_order K P w ad):=by
 refine F.ok sc_tell_order (fun vs H Q E h=>?_) (fun _ A _ s H vs Q E hr h=>?_)
 ·obtain⟨tb,A,t,p,rfl,_⟩:=h;rfl
 ·obtain⟨tb,A,t,p,rfl,hT,k⟩:=h;have hu:=iI hr
  refine⟨_,(sC (aB (gB (aX (aH (pv 0) T.cl_Table D_Table_has_province hr (pC (pv 1) pN)))) (sO (sR (aT (pC (eG rfl T.g_OUT_OF_RANGE) pN)))) sN)
   (sC (aB (hE (pc_dnotin hu (pv 1) (eF (pv 0) rfl))) (sO (sR (aT (pC (eG rfl T.g_MISSING) pN)))) sN)
   (sC (aD (i:=2) sc_tell_order.nd rfl (Or.inl rfl) (hG hu (eF (pv 0) rfl) (pv 1) (fun _ _=>rfl)))
   (sO (sR (pe_op op_cat (aT (pC (eF (pv 2) rfl) (pC (eF (pv 2) rfl) (pC (eF (pv 2) rfl) pN)))) (eD D_order_and_why hr (pC (pv 0) (pC (pv 1) pN))))))))),?_⟩
  walk_at "s1";refine⟨_,_,hT.obj,bF,tb,A,t,p,rfl,hT,_,rfl,?_⟩
  cases c1:isProv t p with
  | false =>
   rw [if_pos rfl];exact⟨by show 1<=sizeLine;decide,k.one hT (Same.refl _) (by simp only [Vbsoac.step,c1,if_true])⟩
  | true =>
  rw [if_neg (by decide),e1];clear e1 k1;obtain⟨i,rfl,hi⟩:=eO c1
  have step:Vbsoac.step t (.order (i:Int))=(match manAt t.men i with
   | none=>(t,[-5])
   | some u=>(t,Vbsoac.ints ([u.power,bit u.fleet,u.shore]++(orderNumbers u.order++[Vbsoac.why (bd t) t.men u])))):=by
   simp only [Vbsoac.step,c1,Bool.true_eq_false,if_false,Int.toNat_natCast];rfl
  walk_at "s2";obtain⟨o,hg,ho⟩:=unit_in hT i;refine⟨_,_,_,hT.obj,T.cl_Table,T.nf_Table_units,_,aE,_,rfl,_,hg,?_⟩
  rw [ho];cases c2:manAt t.men i with
  | none =>
   rw [Option.isSome_none,if_pos rfl];rw [c2] at step;exact⟨by show 1<=sizeLine;decide,k.one hT (Same.refl _) step⟩
  | some u =>
  rw [Option.isSome_some,if_neg (by decide),e2];clear e2 k2;rw [c2] at step;obtain⟨hp,ok,a,dx,o',hg2,u1,u2⟩:=fP hT c2;walk_at "s3";refine⟨_,_,_,hT.obj,T.cl_Table,T.nf_Table_units,_,aE,_,rfl,_,hg2,?_⟩
  rw [e3];walk_at "rd";refine⟨_,_,_,u1,T.cl_Unit,T.nf_Unit_power,_,jY,_,_,_,u1,T.cl_Unit,T.nf_Unit_fleet,_,bO,_,_,_,u1,T.cl_Unit,T.nf_Unit_shore,_,eZ,by show 3<=sizeLine;decide,fun L1 n1=>?_⟩
  have s1:=Same.new (o:=.lst [V.int (u.power:Int),V.int ((bit u.fleet:Nat):Int),V.int (u.shore:Int)]) n1
  refine⟨tb,A,t,i,u,rfl,AskU.same ⟨hT,c2⟩ s1,fun L2 H2 s2 n2 hL2=>⟨L1,L2,_,_,rfl,rfl,s2 _ _ uS,hL2,?_,fun D nD=>?_⟩⟩
  ·rw [aG];unfold gC;rw [List.length_append,nums_len];show 3+(4+1)<=sizeLine
   decide
  ·have s3:=s1.trans s2;refine k.same hT (s3.upd (s3.free nD)) step (s3.free nD) ?_
   rw [uS,ints_bv,bv_app];rfl
abbrev O_find_provinces:=DO "find_provinces" 3 ["table","word"] sp_find_provinces
theorem ok_find_provinces (F:Fun K "find_provinces" "find_provinces" gP f fd)(T:Txt K mg ad)(D_Table_provinces_meant:dE P w K mg base ad)(D_is_text:O_is_text P w K mg base ad):FnOk P w K mg base CX0 3 f fd ["table","word"] (sp_find_provinces K P w ad):=by
 refine F.ok sc_find_provinces (fun vs H Q E h=>?_) (fun _ A _ s H vs Q E hr h=>?_)
 ·obtain⟨tb,a,A,t,x,rfl,_⟩:=h;rfl
 ·obtain⟨tb,a,A,t,x,rfl,hT,hx,hl,k⟩:=h
  refine⟨_,(sC (aB (gB (aX (eD D_is_text hr (pC (pv 1) (pC (eG rfl T.g_LONGEST_WORD) pN))))) (sO (sR (aT (pC (eG rfl T.g_OUT_OF_RANGE) pN)))) sN)
   (sC (aD (i:=2) sc_find_provinces.nd rfl (Or.inl rfl) (aH (pv 0) T.cl_Table D_Table_provinces_meant hr (pC (gI dP rfl T.n_tuple PyProof.Rows.boot_tuple (pC (pv 1) pN)) pN)))
   (sO (sR (pe_op op_cat (aT (pC (aR T.n_len (pC (pv 2) pN)) pN)) (pv 2)))))),?_⟩
  walk_at "s1";refine⟨a,x,40,rfl,hx,Nat.le_trans hl (by decide),fun H1 s1=>⟨_,rfl,?_⟩⟩
  rw [show(40:Int)=((40:Nat):Int) from rfl,isText_eq]
  cases c1:isText 40 x with
  | false =>
   rw [if_pos rfl];exact⟨by show 1<=sizeLine;decide,k.one hT s1 (by simp only [Vbsoac.step,c1,if_true])⟩
  | true =>
  rw [if_neg (by decide),e1];clear e1 k1;obtain⟨b1,b2,b3⟩:=jD c1;have hx1:=s1.seq hx;rw [b1] at hx1
  have step:Vbsoac.step t (.find x)=(t,Vbsoac.row (Vbsoab.find t.map (nats x))):=by
   simp only [Vbsoac.step,c1,Bool.true_eq_false,if_false]
  have hT1:=hT.same s1;walk_at "s2";refine⟨_,_,hT1.obj,eP,_,.inl ⟨hx1,fun b nb=>?_⟩⟩
  have s2:=Same.new (o:=.tup (bv (nats x))) nb
  refine⟨tb,b,A,t,nats x,rfl,hT1.same s2,SqT.of uS,fun D1 H2 s3 n1 hD1=>?_⟩
  rw [e2]
  have hfl:(Vbsoab.find t.map (nats x)).length<=40:=by
   have:(Vbsoab.find t.map (nats x)).length<=t.map.provinces.length:=by
    rw [find_eq hT.wf];split
    ·exact Nat.le_trans (List.length_filter_le _ _) (by simp)
    ·exact Nat.le_trans (List.length_filter_le _ _) (by simp)
   exact Nat.le_trans this hT.wf.few
  have s4:=(s1.trans s2).trans s3;walk_at "rd";refine⟨_,.inl (SqL.of hD1),by show 1<=sizeLine;decide,fun L1 nL1=>⟨L1,D1,_,_,rfl,rfl,uS,by rw [uN (nN hD1 nL1)];exact hD1,?_,fun D nD=>?_⟩⟩
  ·rw [aG];simp only [List.length_cons,List.length_nil];exact Nat.le_trans (show 0+1+(Vbsoab.find t.map (nats x)).length<=41 by omega) (by decide)
  ·have s5:Same H (upd H2 L1 (.lst [V.int ((bv (Vbsoab.find t.map (nats x))).length:Int)])):=s4.upd (s4.free nL1)
   refine k.same hT (s5.upd (s5.free nD)) step (s5.free nD) ?_
   rw [uS];unfold Vbsoac.row;rw [ints_bv,aG];rfl
abbrev O_tell_orders:=DO "tell_orders" 9 ["table"] sp_tell_orders
theorem ok_tell_orders (F:Fun K "tell_orders" "tell_orders" kI f fd)(T:Txt K mg ad)(D_Table_provinces_with_units:bA P w K mg base ad)(D_order_and_why:jQ P w K mg base ad):FnOk P w K mg base CX0 9 f fd ["table"] (sp_tell_orders K P w ad):=by
 refine F.ok sc_tell_orders (fun vs H Q E h=>?_) (fun _ A _ s H vs Q E hr h=>?_)
 ·obtain⟨tb,A,t,rfl,_⟩:=h;rfl
 ·obtain⟨tb,A,t,rfl,hT,k⟩:=h
  refine⟨_,(sC (aD (i:=1) sc_tell_orders.nd rfl (Or.inl rfl) (aT (pC (bI call_lenD rfl T.n_len PySem.boot_len (pC (eF (pv 0) rfl) pN)) pN)))
   (sC (ps_for PassesOwn.never rfl (jX (aU (pv 0) T.cl_Table D_Table_provinces_with_units hr)) (cY (i:=2) sc_tell_orders.nd rfl (Or.inl rfl)) (sC (bZ (jA PySem.F.plainAttrs_list PySem.F.slot_list_append PySem.F.type_list_append dA (pv 1) (pC (pv 2) pN)))
   (sO (bZ (jA PySem.F.plainAttrs_list PySem.F.slot_list_extend PySem.F.type_list_extend mt_extend (pv 1) (pC (eD D_order_and_why hr (pC (pv 0) (pC (pv 2) pN))) pN))))))
   (sO (sR (pv 1))))),?_⟩
  have step:Vbsoac.step t .orders=(t,Vbsoac.ints (t.men.length::t.men.flatMap fun u=>u.prov::gC t u)):=rfl
  obtain⟨kvs,g1,g2,_⟩:=unit_get hT 0
  have owl:∀ u,(gC t u).length=5:=fun u=>by
   unfold gC;rw [List.length_append,nums_len];rfl
  walk_at "s1";refine⟨_,_,_,hT.obj,T.cl_Table,T.nf_Table_units,_,aE,_,rfl,_,g1,by show 1<=sizeLine;decide,fun D nD=>?_⟩
  walk_at "c1";have s1:Same H (upd H D (.lst [V.int (kvs.length:Int)])):=Same.new nD
  have hD:upd H D (.lst [V.int (kvs.length:Int)]) D=some (.lst (bv (t.men.length::(t.men.take 0).flatMap fun u=>u.prov::gC t u))):=by
   rw [uS,g2];rfl
  generalize upd H D (.lst [V.int (kvs.length:Int)])=H1 at s1 hD ⊢;have hT1:=hT.same s1;refine bY fun k2 e2=>?_
  refine⟨_,rfl,_,_,_,rfl,hT1.obj,bL,tb,A,t,rfl,hT1,fun L H2 s2 nL hL=>⟨_,rfl,⟨_,SqL.of hL⟩,?_⟩⟩
  have s12:=s1.trans s2;have hLD:L≠D:=Ne.symm (nN hD nL)
  refine for_list (K:=K) (a:=L) (xs:=bv (t.men.map fun m=>m.prov)) (fun i σ H'=>∃ v1,σ=[some (.ref tb),some (.ref D),v1]/\Same H H'/\H' L=some (.lst (bv (t.men.map fun m=>m.prov)))/\H' D=some (.lst (bv (t.men.length::(t.men.take i).flatMap fun u=>u.prov::gC t u)))) ⟨none,rfl,s12,hL,s2 _ _ hD⟩ (fun i σ H' _ ⟨_,_,_,z,_⟩=>SqL.of z) ?_ ?_
  ·rintro i x σ H' hx ⟨v1,rfl,s5,hL',hD'⟩
   rw [show(bv (t.men.map fun m=>m.prov))[i]?=(t.men[i]?).map (fun m=>V.int ((m.prov:Nat):Int)) by simp only [bv,List.map_map,List.getElem?_map];rfl] at hx
   obtain⟨m,hm,rfl⟩:=Option.map_eq_some_iff.mp hx;have hT5:=hT.same s5;have hlt:=(List.getElem?_eq_some_iff.mp hm).1;have few:=hT.wf.men
   have bnd:((t.men.take i).flatMap fun u=>u.prov::gC t u).length<=24*6:=by
    have h1:=flat_le (f:=fun u=>u.prov::gC t u) (k:=6) (l:=t.men.take i) fun u _=>by rw [List.length_cons,owl];exact Nat.le_refl _
    rw [List.length_take] at h1;exact Nat.le_trans h1 (Nat.mul_le_mul_right _ (by omega))
   walk_at "rd";refine⟨tyl hD',_,hD',?_,?_⟩
   ·rw [aG,List.length_cons];exact Nat.lt_of_le_of_lt (show _<=200 by omega) (by decide)
   have s6:Same H (upd H' D (.lst (bv (t.men.length::(t.men.take i).flatMap fun u=>u.prov::gC t u)++[V.int (m.prov:Int)]))):=s5.upd nD
   have hD6:upd H' D (.lst (bv (t.men.length::(t.men.take i).flatMap fun u=>u.prov::gC t u)++[V.int (m.prov:Int)])) D=some (.lst (bv (t.men.length::(t.men.take i).flatMap fun u=>u.prov::gC t u)++[V.int (m.prov:Int)])):=uS
   have hL6:upd H' D (.lst (bv (t.men.length::(t.men.take i).flatMap fun u=>u.prov::gC t u)++[V.int (m.prov:Int)])) L=some (.lst (bv (t.men.map fun m=>m.prov))):=by rw [uN hLD];exact hL'
   generalize upd H' D (.lst (bv (t.men.length::(t.men.take i).flatMap fun u=>u.prov::gC t u)++[V.int (m.prov:Int)]))=H6 at s6 hD6 hL6 ⊢
   refine⟨tyl hD6,tb,A,t,m.prov,m,rfl,⟨hT.same s6,men_at hT.wf hm⟩,fun D7 H7 s7 n7 hD7=>⟨D7,rfl,_,s7 _ _ hD6,_,hD7,?_,?_,?_,?_⟩⟩
   ·rw [List.length_append,aG,aG,owl,List.length_cons];simp only [List.length_cons,List.length_nil];exact Nat.le_trans (show _<=200 by omega) (by decide)
   ·exact(s6.trans s7).upd nD
   ·rw [uN hLD];exact s7 _ _ hL6
   ·rw [uS,flat_take _ hm];simp only [bv,List.map_cons,List.map_append,List.append_assoc,List.cons_append,List.nil_append,List.map_nil]
  ·rintro σ H' ⟨v1,rfl,s5,hL',hD'⟩
   rw [aG,List.length_map,List.take_length] at hD';show k2 _ _
   rw [e2];walk_at "rd";exact k.same hT s5 step nD (by rw [ints_bv];exact hD')
def plw (t:Table)(f:Bool)(p s:Nat):Bytes:=if f=true then Vbsoab.placeWord t.map p s else shortOf t.map p
def moveW (t:Table)(f:Bool)(p s:Nat)(wt:Bool):List Bytes:=[word "to",plw t f p s]++(if wt=true then [word "by",word "water"] else [])
theorem orderWords_eq (t:Table)(u:Man):Vbsoac.orderWords t.map u=(match u.order with
 | .hold=>[word "holds"]
 | .move p s wt=>moveW t u.fleet p s wt
 | .stay p=>[word "supports",shortOf t.map p]
 | .aid p q=>[word "supports",shortOf t.map p,word "to",shortOf t.map q]
 | .carry p q=>[word "carries",shortOf t.map p,word "to",shortOf t.map q]):=by
 unfold Vbsoac.orderWords;cases u.order <;> rfl
theorem short_len {t:Table}(wf:WF t){p:Nat}(hp:p < aF t):(provAt t.map p).short.length=3:=(wf.prov _ (List.mem_of_getElem? (cW hp))).short
theorem plw_len {t:Table}(wf:WF t){f:Bool}{p s:Nat}(hp:p < aF t):3<=(plw t f p s).length/\(plw t f p s).length<=12:=by
 have h1:=short_len wf hp;unfold plw;split
 ·unfold Vbsoab.placeWord;dsimp only;rw [List.length_append,h1];split
  ·simp
  ·rw [List.length_cons]
   have:((provAt t.map p).shores.getD s []).length<=8:=by
    rw [List.getD_eq_getElem?_getD];cases e:(provAt t.map p).shores[s]? with
    | none=>simp
    | some x=>exact(wf.prov _ (List.mem_of_getElem? (cW hp))).each x (List.mem_of_getElem? e)
   omega
 ·unfold shortOf;omega
def fleetAt (f:Bool)(t:Table)(p s:Nat):Prop:=f=true->s < shoresOf t.map p
def sp_place_word:SP:=fun K P w ad vs H Q _=>∃ (tb:Addr)(A:TAd)(t:Table)(f:Bool)(p s:Nat),vs=[.ref tb,.int (bit f:Nat),.int p,.int s]/\TabAt K P w ad H tb A t/\p < aF t/\fleetAt f t p s/\∀ b H',Same H H'->H' b=some (.tup (bv (plw t f p s)))->Q (.ref b) H'
def GivesWs (H:Hp)(ws:List Bytes)(Q:VK):Prop:=∀ b qs H',Same H H'->H b=none->H' b=some (.lst (qs.map V.ref))->WordsAt H' ws qs->Q (.ref b) H'
def sp_move_words:SP:=fun K P w ad vs H Q _=>∃ (tb oa:Addr)(A:TAd)(t:Table)(f wt:Bool)(p s:Nat),vs=[.ref tb,.int (bit f:Nat),.ref oa]/\TabAt K P w ad H tb A t/\SqT K H oa (bv [1,p,s,bit wt])/\p < aF t/\fleetAt f t p s/\GivesWs H (moveW t f p s wt) Q
def sp_order_words:SP:=fun K P w ad vs H Q _=>∃ (tb x:Addr)(A:TAd)(t:Table)(u:Man),vs=[.ref tb,.ref x]/\TabAt K P w ad H tb A t/\UnitAt K ad H u x/\ManOk t u/\GivesWs H (Vbsoac.orderWords t.map u) Q
abbrev O_place_word:=DO "place_word" 1 ["table","fleet","p","s"] sp_place_word
theorem ok_place_word (F:Fun K "place_word" "place_word" st_place_word f fd)(T:Txt K mg ad) :FnOk P w K mg base CX0 1 f fd ["table","fleet","p","s"] (sp_place_word K P w ad):=by
 refine F.ok sc_place_word (fun vs H Q E h=>?_) (fun _ A _ s H vs Q E hr h=>?_)
 ·obtain⟨tb,A,t,f,p,s,rfl,_⟩:=h;rfl
 ·obtain⟨tb,A,t,f',p,s',rfl,hT,hp,hs,k⟩:=h
  refine⟨_,(sC (aD (i:=4) sc_place_word.nd rfl (Or.inl rfl) (aN aP (eF (pv 0) rfl) (pv 2) (fun _ _=>rfl)))
   (sC (aB (PW.pt (iS (tR aM (pv 1) (eG rfl T.g_FLEET) (nMk _)) (gZ (tR op_gt (aR T.n_len (pC (eF (pv 4) rfl) pN)) eJ (nMk _))))) (sO (sR (pe_op op_catT (pe_op op_catT (eF (pv 4) rfl) (eM (pC (eG rfl T.g_SLASH) pN))) (aN aP (eF (pv 4) rfl) (pv 3) (fun _ _=>rfl))))) sN)
   (sO (sR (eF (pv 4) rfl))))),?_⟩
  obtain⟨qs,q,h1,h2,h3,dx,n,sh,sl,ws,g1,g2,g3,g4,g5,g6⟩:=fI hT hp;have hsl:=short_len hT.wf hp;have hwl:(provAt t.map p).shores.length=ws.length:=Paired.length g6
  walk_at "s1";refine⟨_,_,_,hT.obj,T.cl_Table,T.nf_Table_provinces,_,aC,_,rfl,_,SqL.of h1,_,hZ h3,?_⟩
  walk_at "c1";walk_at "s2";refine⟨rfl,?_⟩
  unfold plw at k;cases f' with
  | false =>
   rw [if_neg (by decide),if_neg (by decide),e2];walk_at "rd";exact⟨_,_,_,g1,T.cl_Province,T.nf_Province_short_name,_,aI,k sh H (Same.refl _) g3⟩
  | true =>
   rw [if_pos rfl] at k;unfold Vbsoab.placeWord at k;dsimp only at k;rw [if_pos (by rfl)]
   refine⟨_,_,_,g1,T.cl_Province,T.nf_Province_shores,_,eE,_,rfl,_,.inl (SqL.of g5),?_⟩
   rw [List.length_map,<-hwl];by_cases c:(provAt t.map p).shores=[]
   ·rw [if_neg (by rw [c];decide),e2]
    walk_at "rd";rw [if_pos c,List.append_nil] at k;exact⟨_,_,_,g1,T.cl_Province,T.nf_Province_short_name,_,aI,k sh H (Same.refl _) g3⟩
   ·have hpos:=List.length_pos_iff.mpr c;rw [if_pos (by omega)];rw [if_neg c] at k
    have hlt:s' < (provAt t.map p).shores.length:=by
     have:=hs rfl
     unfold shoresOf at this;omega
    obtain⟨x,hx⟩:∃ x,(provAt t.map p).shores[s']?=some x:=⟨_,List.getElem?_eq_getElem hlt⟩
    obtain⟨qx,hqx,hxa⟩:=Paired.at_ g6 hx;have hx8:x.length<=8:=(hT.wf.prov _ (List.mem_of_getElem? (cW hp))).each x (List.mem_of_getElem? hx)
    rw [List.getD_eq_getElem?_getD,hx] at k;replace k:∀ b H',Same H H'->H' b=some (.tup (bv ((provAt t.map p).short++47::x)))->Q (.ref b) H':=k
    refine⟨_,_,_,g1,T.cl_Province,T.nf_Province_short_name,_,aI,by show 1<=sizeLine;decide,fun y1 n1=>?_⟩
    have s1:=Same.new (o:=.tup [V.int 47]) n1
    refine⟨sh,y1,_,_,rfl,rfl,SqT.of (s1 _ _ g3),SqT.of uS,?_,?_,?_⟩
    ·intro z;have:=congrArg List.length z
     rw [aG,hsl] at this;cases this
    ·rw [aG,hsl];show 3+1<=sizeLine
     decide
    ·refine⟨(fun z=>by cases z),fun _ y2 n2=>?_⟩
     have s2:=s1.trans (Same.new (o:=.tup (bv (provAt t.map p).short++[V.int 47])) n2)
     refine⟨_,_,_,(s2 _ _ g1),T.cl_Province,T.nf_Province_shores,_,eE,_,rfl,_,SqL.of (s2 _ _ g5),_,hZ hqx,y2,qx,_,_,rfl,rfl,SqT.of uS,SqT.of (s2 _ _ hxa),by simp,?_,fun z=>?_,fun _ y3 n3=>?_⟩
     ·rw [List.length_append,aG,aG,hsl];show 3+1+x.length<=sizeLine
      exact Nat.le_trans (show 3+1+x.length<=20 by omega) (by decide)
     ·have xe:x=[]:=by
       have:=congrArg List.length z
       rw [aG] at this;exact List.length_eq_zero_iff.mp this
      refine k y2 _ s2 ?_
      rw [uS,xe,bv_app];rfl
     ·refine k y3 _ (s2.upd (s2.free n3)) ?_
      rw [uS,bv_app];simp [bv]
abbrev O_move_words:=DO "move_words" 2 ["table","fleet","order"] sp_move_words
theorem ok_move_words (F:Fun K "move_words" "move_words" st_move_words f fd)(T:Txt K mg ad)(D_spelled:gM P w K mg base ad)(D_place_word:O_place_word P w K mg base ad):FnOk P w K mg base CX0 2 f fd ["table","fleet","order"] (sp_move_words K P w ad):=by
 refine F.ok sc_move_words (fun vs H Q E h=>?_) (fun _ A _ s H vs Q E hr h=>?_)
 ·obtain⟨tb,oa,A,t,f,wt,p,s,rfl,_⟩:=h;rfl
 ·obtain⟨tb,oa,A,t,f',wt,p,s',rfl,hT,ho,hp,hs,k⟩:=h
  refine⟨_,(sC (aD (i:=3) sc_move_words.nd rfl (Or.inl rfl) (aT (pC (eD D_spelled hr (pC cZ pN)) (pC (eD D_place_word hr (pC (pv 0) (pC (pv 1) (pC (aN cI (pv 2) eJ (fun _ _=>rfl)) (pC (aN cI (pv 2) eJ (fun _ _=>rfl)) pN))))) pN))))
   (sC (aB (tR aM (aN cI (pv 2) eJ (fun _ _=>rfl)) eJ (nMk _)) (sO (bZ (jA PySem.F.plainAttrs_list PySem.F.slot_list_extend PySem.F.type_list_extend mt_extend (pv 3) (pC (aT (pC (eD D_spelled hr (pC cZ pN)) (pC (eD D_spelled hr (pC cZ pN)) pN))) pN)))) sN)
   (sO (sR (pv 3))))),?_⟩
  walk_at "s1";refine⟨"to",rfl,by decide,fun b1 H1 s1 n1 hb1=>?_⟩
  rw [cps_to] at hb1;refine⟨_,s1.tup ho,_,aL (i:=1) rfl,_,s1.tup ho,_,aL (i:=2) rfl,tb,A,t,f',p,s',rfl,hT.same s1,hp,hs,fun b2 H2 s2 hb2=>⟨by show 2<=sizeLine;decide,fun L nL=>?_⟩⟩
  have s12:=s1.trans s2;have s3:Same H2 (upd H2 L (.lst [.ref b1,.ref b2])):=Same.new nL
  have hL:upd H2 L (.lst [.ref b1,.ref b2]) L=some (.lst [.ref b1,.ref b2]):=uS
  have hLn:H L=none:=s12.free nL
  generalize upd H2 L (.lst [.ref b1,.ref b2])=H3 at s3 hL ⊢;have s13:=s12.trans s3;walk_at "c1";unfold moveW at k;walk_at "s2";refine⟨_,s13.tup ho,_,aL (i:=3) rfl,rfl,?_⟩
  have hw:WordsAt H3 [word "to",plw t f' p s'] [b1,b2]:=.cons (s3 _ _ (s2 _ _ hb1)) (.cons (s3 _ _ hb2) .nil)
  cases wt with
  | false =>
   rw [if_neg (by intro z;exact absurd (V.int.inj z) (by decide)),e2]
   walk_at "rd";exact k L [b1,b2] H3 s13 hLn hL hw
  | true =>
   rw [if_pos (by rfl)]
   refine⟨tyl hL,"by",rfl,by decide,fun b3 H4 s4 n4 hb3=>⟨"water",rfl,by decide,fun b4 H5 s5 n5 hb4=>⟨by show 2<=sizeLine;decide,fun M nM=>?_⟩⟩⟩
   rw [cps_by] at hb3;rw [cps_water] at hb4;have s6:Same H5 (upd H5 M (.lst [.ref b3,.ref b4])):=Same.new nM
   have s36:=(s4.trans s5).trans s6;refine⟨_,s36 _ _ hL,_,uS,by show 2+2<=sizeLine;decide,?_⟩
   rw [e2];walk_at "rd";have s7:=s13.trans s36
   have keep:∀ b xs,upd H5 M (.lst [.ref b3,.ref b4]) b=some (.tup xs)->upd (upd H5 M (.lst [.ref b3,.ref b4])) L (.lst ([V.ref b1,V.ref b2]++[V.ref b3,V.ref b4])) b=some (.tup xs):=fun b xs z=>by
    rw [uN (bB z (s36 _ _ hL) (fun e=>nomatch e))]
    exact z
   refine k L [b1,b2,b3,b4] _ (s7.upd hLn) hLn uS ?_
   exact .cons (keep _ _ (s36 _ _ (s3 _ _ (s2 _ _ hb1)))) (.cons (keep _ _ (s36 _ _ (s3 _ _ hb2))) (.cons (keep _ _ (s6 _ _ (s5 _ _ hb3))) (.cons (keep _ _ (s6 _ _ hb4)) .nil)))
def lineW (t:Table)(u:Man):List Bytes:=Vbsoac.unitWords t.map u++Vbsoac.orderWords t.map u
def lineB (t:Table)(u:Man):Bytes:=spaced (lineW t u)++[10]
theorem jW (t:Table)(u:Man):Vbsoac.unitWords t.map u=[if u.fleet=true then word "fleet" else word "army",plw t u.fleet u.prov u.shore]:=rfl
theorem lineW_ok {t:Table}(wf:WF t){u:Man}(ok:ManOk t u):(lineW t u).length<=6/\∀ x∈lineW t u,x≠[]/\x.length<=12:=by
 have word_ok:∀ x:Bytes,1<=x.length/\x.length<=12->x≠[]/\x.length<=12:=fun x h=>⟨fun e=>by rw [e] at h;exact absurd h.1 (by decide),h.2⟩
 have pl:∀ {f p s},p < aF t->plw t f p s≠[]/\(plw t f p s).length<=12:=fun {f p s} hp=>word_ok _ ⟨by have:=(plw_len wf (f:=f) (s:=s) hp).1;omega,(plw_len wf hp).2⟩
 have sh:∀ {p},p < aF t->shortOf t.map p≠[]/\(shortOf t.map p).length<=12:=fun {p} hp=>word_ok _ (by
  have:=short_len wf hp
  show 1<=(provAt t.map p).short.length/\(provAt t.map p).short.length<=12
  omega)
 have w1:∀ x∈[word "fleet",word "army",word "holds",word "to",word "by",word "water",word "supports",word "carries"],x≠[]/\x.length<=12:=by decide
 have u1:∀ x∈Vbsoac.unitWords t.map u,x≠[]/\x.length<=12:=by
  intro x hx;rw [jW] at hx;rcases List.mem_cons.mp hx with rfl | hx
  ·split
   ·exact w1 _ (by simp)
   ·exact w1 _ (by simp)
  ·rw [List.mem_singleton.mp hx];exact pl ok.prov
 have oo:=ok.ord
 have o1:(Vbsoac.orderWords t.map u).length<=4/\∀ x∈Vbsoac.orderWords t.map u,x≠[]/\x.length<=12:=by
  rw [orderWords_eq];cases ho:u.order with
  | hold =>
   refine⟨by show 1<=4;decide,fun x hx=>?_⟩
   rw [List.mem_singleton.mp hx];exact w1 _ (by simp)
  | move p s wt =>
   rw [ho] at oo;unfold moveW;refine⟨by cases wt <;> simp,fun x hx=>?_⟩
   rcases List.mem_append.mp hx with hx | hx
   ·rcases List.mem_cons.mp hx with rfl | hx
    ·exact w1 _ (by simp)
    ·rw [List.mem_singleton.mp hx];exact pl oo.1
   ·split at hx
    ·rcases List.mem_cons.mp hx with rfl | hx
     ·exact w1 _ (by simp)
     ·rw [List.mem_singleton.mp hx];exact w1 _ (by simp)
    ·cases hx
  | stay p =>
   rw [ho] at oo;refine⟨by simp,fun x hx=>?_⟩
   rcases List.mem_cons.mp hx with rfl | hx
   ·exact w1 _ (by simp)
   ·rw [List.mem_singleton.mp hx];exact sh oo
  | aid p q =>
   rw [ho] at oo;refine⟨by simp,fun x hx=>?_⟩
   simp only [List.mem_cons,List.not_mem_nil,or_false] at hx;rcases hx with rfl | rfl | rfl | rfl
   ·exact w1 _ (by simp)
   ·exact sh oo.1
   ·exact w1 _ (by simp)
   ·exact sh oo.2
  | carry p q =>
   rw [ho] at oo;refine⟨by simp,fun x hx=>?_⟩
   simp only [List.mem_cons,List.not_mem_nil,or_false] at hx;rcases hx with rfl | rfl | rfl | rfl
   ·exact w1 _ (by simp)
   ·exact sh oo.1
   ·exact w1 _ (by simp)
   ·exact sh oo.2
 unfold lineW;refine⟨?_,fun x hx=>?_⟩
 ·rw [List.length_append,jW];have:=o1.1
  simp only [List.length_cons,List.length_nil];omega
 ·rcases List.mem_append.mp hx with hx | hx
  ·exact u1 x hx
  ·exact o1.2 x hx
theorem spaced_k {k:Nat}:∀ (ws:List Bytes),(∀ x∈ws,x.length<=k)->(spaced ws).length<=ws.length*(k+1)
 | [],_=>by simp [spaced]
 | [x],h=>by
  have:=h x List.mem_cons_self
  simp only [spaced,List.length_cons,List.length_nil];omega
 | x::y::r,h=>by
  have h1:=h x List.mem_cons_self;have ih:=spaced_k (y::r) (fun z hz=>h z (List.mem_cons_of_mem _ hz))
  have e:spaced (x::y::r)=x++(32::spaced (y::r)):=rfl
  rw [e,List.length_append,List.length_cons,List.length_cons,Nat.succ_mul];omega
theorem lineB_len {t:Table}(wf:WF t){u:Man}(ok:ManOk t u):(lineB t u).length<=79:=by
 obtain⟨h1,h2⟩:=lineW_ok wf ok;have h3:=spaced_k (k:=12) (lineW t u) fun x hx=>(h2 x hx).2
 unfold lineB;rw [List.length_append];have:(lineW t u).length*(12+1)<=6*13:=Nat.mul_le_mul_right _ h1
 simp only [List.length_cons,List.length_nil];omega
theorem printed_eq (t:Table)(pw:Nat):Vbsoac.printed t pw=t.men.flatMap fun u=>if u.power==pw then lineB t u else []:=by
 unfold Vbsoac.printed;induction t.men with
 | nil=>rfl
 | cons m l ih =>
  rw [List.filter_cons,List.flatMap_cons,<-ih];split
  ·rfl
  ·rfl
def sp_unit_line:SP:=fun K P w ad vs H Q _=>∃ (tb:Addr)(A:TAd)(t:Table)(p:Nat)(u:Man),vs=[.ref tb,.int p]/\AskU K P w ad H tb p u t A/\∀ D H',Same H H'->H D=none->H' D=some (.lst (bv (lineB t u)))->Q (.ref D) H'
def sp_print_orders:SP:=fun K P w ad vs H Q _=>∃ (tb:Addr)(A:TAd)(t:Table) (pw:Int),vs=[.ref tb,.int pw]/\TabAt K P w ad H tb A t/\PostL K P w ad tb A H t (.print pw) Q
abbrev O_order_words:=DO "order_words" 3 ["table","unit"] sp_order_words
theorem ok_order_words (F:Fun K "order_words" "order_words" kK f fd)(T:Txt K mg ad)(D_spelled:gM P w K mg base ad)(D_move_words:O_move_words P w K mg base ad):FnOk P w K mg base CX0 3 f fd ["table","unit"] (sp_order_words K P w ad):=by
 refine F.ok sc_order_words (fun vs H Q E h=>?_) (fun _ A _ s H vs Q E hr h=>?_)
 ·obtain⟨tb,x,A,t,u,rfl,_⟩:=h;rfl
 ·obtain⟨tb,x,A,t,u,rfl,hT,⟨dx,o,u1,u2⟩,ok,k⟩:=h;have oo:=ok.ord;rw [orderWords_eq] at k
  refine⟨_,(sC (aD (i:=2) sc_order_words.nd rfl (Or.inl rfl) (eF (pv 1) rfl))
   (sC (aB (tR aM (aN cI (pv 2) eJ (fun _ _=>rfl)) (eG rfl T.g_HOLDING) (nMk _)) (sO (sR (aT (pC (eD D_spelled hr (pC cZ pN)) pN)))) sN)
   (sC (aB (tR aM (aN cI (pv 2) eJ (fun _ _=>rfl)) (eG rfl T.g_MOVE) (nMk _)) (sO (sR (eD D_move_words hr (pC (pv 0) (pC (eF (pv 1) rfl) (pC (pv 2) pN)))))) sN)
   (sC (aD (i:=3) sc_order_words.nd rfl (Or.inl rfl) (eF (aN aP (eF (pv 0) rfl) (aN cI (pv 2) eJ (fun _ _=>rfl)) (fun _ _=>rfl)) rfl))
   (sC (aB (tR aM (aN cI (pv 2) eJ (fun _ _=>rfl)) (eG rfl T.g_SUPPORT) (nMk _)) (sO (sR (aT (pC (eD D_spelled hr (pC cZ pN)) (pC (pv 3) pN))))) sN)
   (sC (aD (i:=4) sc_order_words.nd rfl (Or.inl rfl) (eF (aN aP (eF (pv 0) rfl) (aN cI (pv 2) eJ (fun _ _=>rfl)) (fun _ _=>rfl)) rfl))
   (sC (aB (tR aM (aN cI (pv 2) eJ (fun _ _=>rfl)) (eG rfl T.g_SUPPORT_OF_MOVE) (nMk _)) (sO (sR (aT (pC (eD D_spelled hr (pC cZ pN)) (pC (pv 3) (pC (eD D_spelled hr (pC cZ pN)) (pC (pv 4) pN))))))) sN)
   (sO (sR (aT (pC (eD D_spelled hr (pC cZ pN)) (pC (pv 3) (pC (eD D_spelled hr (pC cZ pN)) (pC (pv 4) pN)))))))))))))),?_⟩
  walk_at "s1";refine⟨_,_,_,u1,T.cl_Unit,T.nf_Unit_order,_,f_Unit_order,?_⟩
  walk_at "c1";cases ho:u.order with
  | hold =>
   rw [ho] at u2 k oo;walk_at "s2";refine⟨_,u2,_,aL (i:=0) rfl,rfl,?_⟩
   rw [if_pos (by rfl)]
   refine⟨"holds",rfl,by decide,fun b1 H1 s1 n1 hb1=>⟨by show 1<=sizeLine;decide,fun L nL=>?_⟩⟩
   rw [cps_holds] at hb1;have s2:=Same.new (o:=.lst [V.ref b1]) nL
   exact k L [b1] _ (s1.trans s2) (s1.free nL) uS (.cons (s2 _ _ hb1) .nil)
  | move p s wt =>
   rw [ho] at u2 k oo;walk_at "s2";refine⟨_,u2,_,aL (i:=0) rfl,rfl,?_⟩
   rw [if_neg (by intro z;exact absurd (V.int.inj z) (by decide)),e2]
   clear e2 k2;walk_at "s3";refine⟨_,u2,_,aL (i:=0) rfl,rfl,?_⟩
   rw [if_pos (by rfl)]
   refine⟨_,_,_,u1,T.cl_Unit,T.nf_Unit_fleet,_,bO,tb,o,A,t,u.fleet,wt,p,s,rfl,hT,u2,oo.1,fun hf=>?_,k⟩
   have:=oo.2
   rw [if_pos hf] at this;exact this
  | stay p =>
   rw [ho] at u2 k oo;walk_at "s2";refine⟨_,u2,_,aL (i:=0) rfl,rfl,?_⟩
   rw [if_neg (by intro z;exact absurd (V.int.inj z) (by decide)),e2]
   clear e2 k2;walk_at "s3";refine⟨_,u2,_,aL (i:=0) rfl,rfl,?_⟩
   rw [if_neg (by intro z;exact absurd (V.int.inj z) (by decide)),e3]
   clear e3 k3;obtain⟨qs,q1,h1,h2,h3,dx1,n1,sh1,sl1,ws1,g1,g2,g3,_⟩:=fI hT oo;walk_at "s4";refine⟨_,_,_,hT.obj,T.cl_Table,T.nf_Table_provinces,_,aC,_,u2,_,aL (i:=1) rfl,_,rfl,_,_,rfl,SqL.of h1,_,hZ h3,_,rfl,_,_,_,g1,T.cl_Province,T.nf_Province_short_name,_,aI,?_⟩
   walk_at "c4";walk_at "s5";refine⟨_,u2,_,aL (i:=0) rfl,rfl,?_⟩
   rw [if_pos (by rfl)]
   refine⟨"supports",rfl,by decide,fun b1 H1 s1 m1 hb1=>⟨by show 2<=sizeLine;decide,fun L nL=>?_⟩⟩
   rw [cps_supports] at hb1;have s2:=Same.new (o:=.lst [V.ref b1,V.ref sh1]) nL
   exact k L [b1,sh1] _ (s1.trans s2) (s1.free nL) uS (.cons (s2 _ _ hb1) (.cons (s2 _ _ (s1 _ _ g3)) .nil))
  | aid p q =>
   rw [ho] at u2 k oo;walk_at "s2";refine⟨_,u2,_,aL (i:=0) rfl,rfl,?_⟩
   rw [if_neg (by intro z;exact absurd (V.int.inj z) (by decide)),e2]
   clear e2 k2;walk_at "s3";refine⟨_,u2,_,aL (i:=0) rfl,rfl,?_⟩
   rw [if_neg (by intro z;exact absurd (V.int.inj z) (by decide)),e3]
   clear e3 k3;obtain⟨qs,q1,h1,h2,h3,dx1,n1,sh1,sl1,ws1,g1,g2,g3,_⟩:=fI hT oo.1;walk_at "s4";refine⟨_,_,_,hT.obj,T.cl_Table,T.nf_Table_provinces,_,aC,_,u2,_,aL (i:=1) rfl,_,rfl,_,_,rfl,SqL.of h1,_,hZ h3,_,rfl,_,_,_,g1,T.cl_Province,T.nf_Province_short_name,_,aI,?_⟩
   walk_at "c4";walk_at "s5";refine⟨_,u2,_,aL (i:=0) rfl,rfl,?_⟩
   rw [if_neg (by intro z;exact absurd (V.int.inj z) (by decide)),e5]
   clear e5 k5;obtain⟨qs',q2,h1',h2',h3',dx2,n2,sh2,sl2,ws2,f1,f2,f3,_⟩:=fI hT oo.2;walk_at "s6";refine⟨_,_,_,hT.obj,T.cl_Table,T.nf_Table_provinces,_,aC,_,u2,_,aL (i:=2) rfl,_,rfl,_,_,rfl,SqL.of h1',_,hZ h3',_,rfl,_,_,_,f1,T.cl_Province,T.nf_Province_short_name,_,aI,?_⟩
   walk_at "c6";walk_at "s7";refine⟨_,u2,_,aL (i:=0) rfl,rfl,?_⟩
   rw [if_pos (by rfl)]
   refine⟨"supports",rfl,by decide,fun b1 H1 s1 m1 hb1=>⟨"to",rfl,by decide,fun b2 H2 s2 m2 hb2=>⟨by show 4<=sizeLine;decide,fun L nL=>?_⟩⟩⟩
   rw [cps_supports] at hb1;rw [cps_to] at hb2;have s3:=Same.new (o:=.lst [V.ref b1,V.ref sh1,V.ref b2,V.ref sh2]) nL
   have s12:=s1.trans s2;exact k L [b1,sh1,b2,sh2] _ (s12.trans s3) (s12.free nL) uS (.cons (s3 _ _ (s2 _ _ hb1)) (.cons (s3 _ _ (s12 _ _ g3)) (.cons (s3 _ _ hb2) (.cons (s3 _ _ (s12 _ _ f3)) .nil))))
  | carry p q =>
   rw [ho] at u2 k oo;walk_at "s2";refine⟨_,u2,_,aL (i:=0) rfl,rfl,?_⟩
   rw [if_neg (by intro z;exact absurd (V.int.inj z) (by decide)),e2]
   clear e2 k2;walk_at "s3";refine⟨_,u2,_,aL (i:=0) rfl,rfl,?_⟩
   rw [if_neg (by intro z;exact absurd (V.int.inj z) (by decide)),e3]
   clear e3 k3;obtain⟨qs,q1,h1,h2,h3,dx1,n1,sh1,sl1,ws1,g1,g2,g3,_⟩:=fI hT oo.1;walk_at "s4";refine⟨_,_,_,hT.obj,T.cl_Table,T.nf_Table_provinces,_,aC,_,u2,_,aL (i:=1) rfl,_,rfl,_,_,rfl,SqL.of h1,_,hZ h3,_,rfl,_,_,_,g1,T.cl_Province,T.nf_Province_short_name,_,aI,?_⟩
   walk_at "c4";walk_at "s5";refine⟨_,u2,_,aL (i:=0) rfl,rfl,?_⟩
   rw [if_neg (by intro z;exact absurd (V.int.inj z) (by decide)),e5]
   clear e5 k5;obtain⟨qs',q2,h1',h2',h3',dx2,n2,sh2,sl2,ws2,f1,f2,f3,_⟩:=fI hT oo.2;walk_at "s6";refine⟨_,_,_,hT.obj,T.cl_Table,T.nf_Table_provinces,_,aC,_,u2,_,aL (i:=2) rfl,_,rfl,_,_,rfl,SqL.of h1',_,hZ h3',_,rfl,_,_,_,f1,T.cl_Province,T.nf_Province_short_name,_,aI,?_⟩
   walk_at "c6";walk_at "s7";refine⟨_,u2,_,aL (i:=0) rfl,rfl,?_⟩
   rw [if_neg (by intro z;exact absurd (V.int.inj z) (by decide)),e7]
   walk_at "rd";refine⟨"carries",rfl,by decide,fun b1 H1 s1 m1 hb1=>⟨"to",rfl,by decide,fun b2 H2 s2 m2 hb2=>⟨by show 4<=sizeLine;decide,fun L nL=>?_⟩⟩⟩
   rw [cps_carries] at hb1;rw [cps_to] at hb2;have s3:=Same.new (o:=.lst [V.ref b1,V.ref sh1,V.ref b2,V.ref sh2]) nL
   have s12:=s1.trans s2;exact k L [b1,sh1,b2,sh2] _ (s12.trans s3) (s12.free nL) uS (.cons (s3 _ _ (s2 _ _ hb1)) (.cons (s3 _ _ (s12 _ _ g3)) (.cons (s3 _ _ hb2) (.cons (s3 _ _ (s12 _ _ f3)) .nil))))
abbrev O_unit_line:=DO "unit_line" 4 ["table","p"] sp_unit_line
theorem ok_unit_line (F:Fun K "unit_line" "unit_line" st_unit_line f fd)(T:Txt K mg ad)(D_line_of:O_line_of P w K mg base ad)(D_place_word:O_place_word P w K mg base ad)(D_order_words:O_order_words P w K mg base ad)(D_spelled:gM P w K mg base ad):FnOk P w K mg base CX0 4 f fd ["table","p"] (sp_unit_line K P w ad):=by
 refine F.ok sc_unit_line (fun vs H Q E h=>?_) (fun _ A _ s H vs Q E hr h=>?_)
 ·obtain⟨tb,A,t,p,u,rfl,_⟩:=h;rfl
 ·obtain⟨tb,A,t,p,u,rfl,hA,k⟩:=h;have hu:=iI hr;obtain⟨hp,ok,a,dx,o,hg,u1,u2⟩:=fP hA.1 hA.2
  refine⟨_,(sC (aD (i:=2) sc_unit_line.nd rfl (Or.inl rfl) (hG hu (eF (pv 0) rfl) (pv 1) (fun _ _=>rfl)))
   (sC (aD (i:=3) sc_unit_line.nd rfl (Or.inl rfl) (pe_ifExp (tR aM (eF (pv 2) rfl) (eG rfl T.g_FLEET) (nMk _)) (eD D_spelled hr (pC cZ pN)) (eD D_spelled hr (pC cZ pN))))
   (sO (sR (eD D_line_of hr (pC (pe_op op_cat (aT (pC (pv 3) (pC (eD D_place_word hr (pC (pv 0) (pC (eF (pv 2) rfl) (pC (pv 1) (pC (eF (pv 2) rfl) pN))))) pN))) (eD D_order_words hr (pC (pv 0) (pC (pv 2) pN)))) pN)))))),?_⟩
  walk_at "s1";refine⟨_,_,_,hA.1.obj,T.cl_Table,T.nf_Table_units,_,aE,_,rfl,_,hg,?_⟩
  walk_at "c1";walk_at "s2";refine⟨_,_,_,u1,T.cl_Unit,T.nf_Unit_fleet,_,bO,rfl,?_⟩
  have next:∀ b1 H1,Same H H1->H1 b1=some (.tup (bv (if u.fleet=true then word "fleet" else word "army")))->k2 [some (V.ref tb),some (V.int (p:Int)),some (V.ref a),some (V.ref b1)] H1:=fun b1 H1 s1 hb1=>by
   rw [e2];have hT1:=hA.1.same s1;walk_at "rd";refine⟨_,_,_,(s1 _ _ u1),T.cl_Unit,T.nf_Unit_fleet,_,bO,_,_,_,(s1 _ _ u1),T.cl_Unit,T.nf_Unit_shore,_,eZ,tb,A,t,u.fleet,p,u.shore,rfl,hT1,by rw [<-hp];exact ok.prov,fun _=>by rw [<-hp];exact ok.shore,fun b2 H2 s2 hb2=>⟨by show 2<=sizeLine;decide,fun L1 n1=>?_⟩⟩
   have s3:=Same.new (o:=.lst [V.ref b1,V.ref b2]) n1
   have s13:=(s1.trans s2).trans s3;refine⟨tb,a,A,t,u,rfl,hA.1.same s13,⟨dx,o,s13 _ _ u1,s13.tup u2⟩,ok,fun L2 qs H3 s4 n2 hL2 hw=>⟨L1,L2,_,_,rfl,rfl,s4 _ _ uS,hL2,?_,fun L3 n3=>?_⟩⟩
   ·have:=(lineW_ok hA.1.wf ok).1
    unfold lineW at this;rw [List.length_append,jW] at this;have hl:(Vbsoac.orderWords t.map u).length=qs.length:=Paired.length hw
    rw [List.length_map,<-hl];exact Nat.le_trans this (by decide)
   ·have s5:=Same.new (o:=.lst ([V.ref b1,V.ref b2]++qs.map V.ref)) n3
    have s35:=s4.trans s5;obtain⟨w1,w2⟩:=lineW_ok hA.1.wf ok;refine⟨L3,lineW t u,[b1,b2]++qs,rfl,SqL.of (by rw [uS,List.map_append];rfl),?_,fun x hx=>⟨(w2 x hx).1,Nat.le_trans (w2 x hx).2 (by decide)⟩,Nat.le_trans w1 (by decide),fun D H5 s6 nD hD=>k D H5 ((s13.trans s35).trans s6) ((s13.trans s35).free nD) hD⟩
    unfold lineW;rw [jW,hp];exact Paired.app (.cons (s35 _ _ (s3 _ _ (s2 _ _ hb1))) (.cons (s35 _ _ (s3 _ _ hb2)) .nil)) (hw.mono fun b xs z=>s5 _ _ z)
  cases hf:u.fleet with
  | true =>
   rw [if_pos (by rfl)]
   rw [hf] at next;refine⟨"fleet",rfl,by decide,fun b1 H1 s1 n1 hb1=>next b1 H1 s1 ?_⟩
   rw [cps_fleet] at hb1;exact hb1
  | false =>
   rw [if_neg (by intro z;exact absurd (V.int.inj z) (by decide))]
   rw [hf] at next;refine⟨"army",rfl,by decide,fun b1 H1 s1 n1 hb1=>next b1 H1 s1 ?_⟩
   rw [cps_army] at hb1;exact hb1
abbrev O_print_orders:=DO "print_orders" 5 ["table","power"] sp_print_orders
theorem ok_print_orders (F:Fun K "print_orders" "print_orders" jL f fd)(T:Txt K mg ad)(D_Table_provinces_with_units:bA P w K mg base ad)(D_unit_line:O_unit_line P w K mg base ad)(D_is_power:O_is_power P w K mg base ad):FnOk P w K mg base CX0 5 f fd ["table","power"] (sp_print_orders K P w ad):=by
 refine F.ok sc_print_orders (fun vs H Q E h=>?_) (fun _ A _ s H vs Q E hr h=>?_)
 ·obtain⟨tb,A,t,pw,rfl,_⟩:=h;rfl
 ·obtain⟨tb,A,t,pw',rfl,hT,k⟩:=h;have hu:=iI hr
  refine⟨_,(sC (aB (gB (aX (eD D_is_power hr (pC (pv 1) pN)))) (sO (sR (aT (pC (eG rfl T.g_OUT_OF_RANGE) pN)))) sN)
   (sC (aD (i:=2) sc_print_orders.nd rfl (Or.inl rfl) (aT pN))
   (sC (ps_for PassesOwn.never rfl (jX (aU (pv 0) T.cl_Table D_Table_provinces_with_units hr)) (cY (i:=3) sc_print_orders.nd rfl (Or.inl rfl)) (sO (aB (tR aM (eF (hG hu (eF (pv 0) rfl) (pv 3) (fun _ _=>rfl)) rfl) (pv 1) (nMk _)) (sO (bZ (jA PySem.F.plainAttrs_list PySem.F.slot_list_extend PySem.F.type_list_extend mt_extend (pv 2) (pC (eD D_unit_line hr (pC (pv 0) (pC (pv 3) pN))) pN)))) sN)))
   (sO (sR (pe_op op_cat (aT (pC (aR T.n_len (pC (pv 2) pN)) pN)) (pv 2))))))),?_⟩
  walk_at "s1";refine⟨pw',rfl,_,rfl,?_⟩
  cases c1:isPower pw' with
  | false =>
   rw [if_pos rfl];exact⟨by show 1<=sizeLine;decide,k.one hT (Same.refl _) (by simp only [Vbsoac.step,c1,if_true])⟩
  | true =>
  rw [if_neg (by decide),e1];clear e1 k1
  obtain⟨pw,rfl⟩:∃ n:Nat,pw'=(n:Int):=by
   unfold isPower Vbsoac.within at c1;rw [Bool.and_eq_true,decide_eq_true_eq,decide_eq_true_eq] at c1;exact⟨pw'.toNat,by omega⟩
  have step:Vbsoac.step t (.print (pw:Int))=(t,Vbsoac.row (Vbsoac.printed t pw)):=by
   simp only [Vbsoac.step,c1,Bool.true_eq_false,if_false,Int.toNat_natCast]
  rw [printed_eq] at step;have few:=hT.wf.men
  have bnd:∀ i,((t.men.take i).flatMap fun u=>if u.power==pw then lineB t u else []).length<=24*79:=fun i=>by
   have h1:=flat_le (f:=fun u=>if u.power==pw then lineB t u else []) (k:=79) (l:=t.men.take i) fun u hu'=>by
    split
    ·exact lineB_len hT.wf (hT.wf.man u (List.mem_of_mem_take hu'))
    ·exact Nat.zero_le _
   rw [List.length_take] at h1;exact Nat.le_trans h1 (Nat.mul_le_mul_right _ (by omega))
  walk_at "s2";refine⟨Nat.zero_le _,fun D nD=>?_⟩
  walk_at "c2";have s1:Same H (upd H D (.lst [])):=Same.new nD
  have hD:upd H D (.lst []) D=some (.lst (bv ((t.men.take 0).flatMap fun u=>if u.power==pw then lineB t u else []))):=by
   rw [uS];rfl
  generalize upd H D (.lst [])=H1 at s1 hD ⊢;have hT1:=hT.same s1;refine bY fun k3 e3=>?_
  refine⟨_,rfl,_,_,_,rfl,hT1.obj,bL,tb,A,t,rfl,hT1,fun L H2 s2 nL hL=>⟨_,rfl,⟨_,SqL.of hL⟩,?_⟩⟩
  have hLD:L≠D:=Ne.symm (nN hD nL)
  refine for_list (K:=K) (a:=L) (xs:=bv (t.men.map fun m=>m.prov)) (fun i σ H'=>∃ v1,σ=[some (.ref tb),some (.int (pw:Int)),some (.ref D),v1]/\Same H H'/\H' L=some (.lst (bv (t.men.map fun m=>m.prov)))/\H' D=some (.lst (bv ((t.men.take i).flatMap fun u=>if u.power==pw then lineB t u else [])))) ⟨none,rfl,s1.trans s2,hL,s2 _ _ hD⟩ (fun i σ H' _ ⟨_,_,_,z,_⟩=>SqL.of z) ?_ ?_
  ·rintro i x σ H' hx ⟨v1,rfl,s5,hL',hD'⟩
   rw [show(bv (t.men.map fun m=>m.prov))[i]?=(t.men[i]?).map (fun m=>V.int ((m.prov:Nat):Int)) by simp only [bv,List.map_map,List.getElem?_map];rfl] at hx
   obtain⟨m,hm,rfl⟩:=Option.map_eq_some_iff.mp hx;have hT5:=hT.same s5;have hma:=men_at hT.wf hm;obtain⟨hp,ok,a,dx,o,hg,u1,u2⟩:=fP hT5 hma;have ft:=flat_take (fun u=>if u.power==pw then lineB t u else []) hm
   have bi:=bnd i;have ll:=lineB_len hT.wf ok;walk_at "rd";refine⟨_,_,_,hT5.obj,T.cl_Table,T.nf_Table_units,_,aE,_,rfl,_,hg,_,rfl,_,_,_,u1,T.cl_Unit,T.nf_Unit_power,_,jY,rfl,?_⟩
   by_cases c:m.power=pw
   ·rw [if_pos (by rw [c])]
    rw [if_pos (by simpa using c)] at ft
    refine⟨tyl hD',tb,A,t,m.prov,m,rfl,⟨hT5,hma⟩,fun D7 H7 s7 n7 hD7=>⟨_,rfl,_,s7 _ _ hD',_,hD7,?_,(s5.trans s7).upd nD,?_,?_⟩⟩
    ·rw [aG,aG];exact Nat.le_trans (show _<=2000 by omega) (by decide)
    ·rw [uN hLD];exact s7 _ _ hL'
    ·rw [uS,ft,bv_app]
   ·rw [if_neg (fun z=>c (by have:=V.int.inj z;omega))]
    rw [if_neg (by simpa using c),List.append_nil] at ft
    exact⟨s5,hL',by rw [ft];exact hD'⟩
  ·rintro σ H' ⟨v1,rfl,s5,hL',hD'⟩
   rw [aG,List.length_map] at hD';have bi:=bnd t.men.length;rw [List.take_length] at hD' bi;show k3 _ _
   rw [e3];walk_at "rd";refine⟨_,.inl (SqL.of hD'),by show 1<=sizeLine;decide,fun L1 n1=>⟨L1,D,_,_,rfl,rfl,uS,by rw [uN (nN hD' n1)];exact hD',?_,fun D9 n9=>?_⟩⟩
   ·rw [aG];simp only [List.length_cons,List.length_nil];exact Nat.le_trans (show _<=2000 by omega) (by decide)
   ·have s6:Same H (upd H' L1 (.lst [V.int ((bv (t.men.flatMap fun u=>if u.power==pw then lineB t u else [])).length:Int)])):=s5.upd (s5.free n1)
    refine k.same hT (s6.upd (s6.free n9)) step (s6.free n9) ?_
    rw [uS];unfold Vbsoac.row;rw [ints_bv,aG];rfl
structure Took (ad:Adr)(rd dx a:Addr)(i j:Nat)(H H':Hp):Prop where
 was:H rd=some (rdO ad dx a i)
 kp:∀ b o,H b=some o->b≠rd->H' b=some o
 now:H' rd=some (rdO ad dx a j)
theorem Took.trans {rd dx a:Addr}{i j l:Nat}{H H1 H2:Hp}(h:Took ad rd dx a i j H H1)(k:Took ad rd dx a j l H1 H2):Took ad rd dx a i l H H2:=⟨h.was,fun b o e z=>k.kp b o (h.kp b o e z) z,k.now⟩
theorem Took.free {rd dx a:Addr}{i j:Nat}{H H':Hp}(h:Took ad rd dx a i j H H'){b:Addr}(e:H' b=none):H b=none:=by
 cases z:H b with
 | none=>rfl
 | some o =>
  by_cases c:b=rd
  ·rw [c,h.now] at e;cases e
  ·rw [h.kp b o z c] at e;cases e
theorem Took.num {rd dx a:Addr}{i j:Nat}(h:H rd=some (rdO ad dx a i)):Took ad rd dx a i j H (upd H rd (rdO ad dx a j)):=⟨h,fun b o e z=>by rw [uN z];exact e,uS⟩
theorem Took.row {rd dx a p:Addr}{i j:Nat}{xs:List V}(h:H rd=some (rdO ad dx a i))(n:H p=none):Took ad rd dx a i j H (upd (upd H p (.lst xs)) rd (rdO ad dx a j))/\upd (upd H p (.lst xs)) rd (rdO ad dx a j) p=some (.lst xs):=by
 refine⟨⟨h,fun b o e z=>by rw [uN z,uN (nN e n)];exact e,uS⟩,?_⟩
 rw [uN (Ne.symm (nN h n)),uS]
theorem Took.tab {rd dx a tb:Addr}{i j:Nat}{H H':Hp}{t:Table}(h:Took ad rd dx a i j H H')(hT:TabAt K P w ad H tb A t):TabAt K P w ad H' tb A t :=
 hT.mono fun b o e k=>h.kp b o e (bB e h.was (fun z=>by rw [z] at k;cases k))
theorem Took.sql {rd dx a c:Addr}{i j:Nat}{H H':Hp}{xs:List V}(h:Took ad rd dx a i j H H')(hS:SqL K H c xs):SqL K H' c xs:=by
 rcases hS with (e | ⟨o,e⟩) | e
 ·exact .inl (.inl (h.kp _ _ e (bB e h.was (fun z=>nomatch z))))
 ·exact .inl (.inr ⟨o,h.kp _ _ e (bB e h.was (fun z=>nomatch z))⟩)
 ·exact .inr e
theorem Took.lst {rd dx a c:Addr}{i j:Nat}{H H':Hp}{xs:List V}(h:Took ad rd dx a i j H H')(e:H c=some (.lst xs)):H' c=some (.lst xs):=h.kp _ _ e (bB e h.was (fun z=>nomatch z))
def PostA (K:W.Frag)(P:Program)(w:World)(ad:Adr)(tb rd dx a:Addr)(A:TAd)(H:Hp)(t:Table)(x:Call)(j:Nat)(Q:VK):Prop :=
 ∀ A' H' D,TabAt K P w ad H' tb A' (Vbsoac.step t x).1->(A'.pv=A.pv\/H A'.pv=none)->H' rd=some (rdO ad dx a j)->(∀ b o,H b=some o->b≠A.pv->b≠rd->keepK o=true->H' b=some o/\b≠D)->D≠A'.pv->H' D=some (.lst ((Vbsoac.step t x).2.map V.int))->Q (.ref D) H'
section
variable {K:W.Frag}{P:Program}{w:World}{ad:Adr}{tb rd dx a:Addr}{A:TAd}{H H1:Hp}{t:Table}{x:Call}{i j:Nat}{Q:VK}
theorem PostA.toL (k:PostA K P w ad tb rd dx a A H t x j Q)(hT:TabAt K P w ad H tb A t)(h:Took ad rd dx a i j H H1):PostL K P w ad tb A H1 t x Q:=fun A' H' D hT' hpv kf nD hD hne=>by
 obtain⟨qs,hq,_⟩:=hT.provs;have rpv:rd≠A.pv:=bB h.was hq (fun e=>nomatch e)
 refine k A' H' D hT' (hpv.imp id h.free) (kf _ _ h.now rpv rfl) (fun b o e z1 z2 z3=>⟨kf _ _ (h.kp b o e z2) z1 z3,?_⟩) hne hD
 exact nN (h.kp b o e z2) nD
theorem PostA.toP (k:PostA K P w ad tb rd dx a A H t x j Q)(hT:TabAt K P w ad H tb A t)(h:Took ad rd dx a i j H H1):Post K P w ad tb A H1 t x (fun v H2=>1<=sizeLine/\∀ p,H2 p=none->Q (.ref p) (upd H2 p (.lst [v]))):=fun A' H' r hT' hpv kf hr=>by
 obtain⟨qs,hq,_⟩:=hT.provs;have rpv:rd≠A.pv:=bB h.was hq (fun e=>nomatch e)
 refine⟨by decide,fun D nD=>?_⟩
 have s:=Same.new (o:=.lst [V.int r]) nD
 obtain⟨qs',hq',_⟩:=hT'.provs;refine k A' _ D (hT'.same s) (hpv.imp id h.free) (s _ _ (kf _ _ h.now rpv rfl)) (fun b o e z1 z2 z3=>?_) (Ne.symm (nN hq' nD)) ?_
 ·have:=kf _ _ (h.kp b o e z2) z1 z3
  exact⟨s _ _ this,nN this nD⟩
 ·rw [uS,hr];rfl
end
theorem jF {ns r:List Int}{i:Nat}{x:Int}(h:ns.drop i=x::r):ns[i]?=some x/\ns.drop (i+1)=r:=by
 have h1:ns[i]?=(ns.drop i)[0]?:=by rw [List.getElem?_drop];rfl
 refine⟨by rw [h1,h];rfl,?_⟩
 have:ns.drop (i+1)=(ns.drop i).drop 1:=by rw [List.drop_drop]
 rw [this,h];rfl
theorem drop_nums {ns l r:List Int}{i:Nat}(h:ns.drop i=l++r)(hi:i<=ns.length):(ns.drop i).take l.length=l/\i+l.length<=ns.length/\ns.drop (i+l.length)=r:=by
 refine⟨by rw [h,List.take_left],?_,?_⟩
 ·have:=congrArg List.length h
  rw [List.length_drop,List.length_append] at this;omega
 ·rw [<-List.drop_drop,h,List.drop_left]
theorem drop_le {ns r:List Int}{i:Nat}{x:Int}(h:ns.drop i=x::r):i+1<=ns.length:=by
 have:=congrArg List.length h
 rw [List.length_drop,List.length_cons] at this;omega
theorem drop_row {ns l r:List Int}{i:Nat}(h:ns.drop i=(l.length:Int)::(l++r)):ns[i]?=some (l.length:Int)/\i+1+l.length<=ns.length/\(ns.drop (i+1)).take l.length=l/\ns.drop (i+1+l.length)=r:=by
 obtain⟨h1,h2⟩:=jF h;obtain⟨h3,h4,h5⟩:=drop_nums h2 (drop_le h);exact⟨h1,h4,h3,h5⟩
def AnsSp (x:Call)(e:List Int)(K:W.Frag)(P:Program)(w:World)(ad:Adr)(vs:List V)(H:Hp)(Q:VK):Prop:=∃ (tb rd dx a:Addr)(A:TAd)(t:Table)(ns r:List Int)(i:Nat),vs=[.ref tb,.ref rd]/\TabAt K P w ad H tb A t/\H rd=some (rdO ad dx a i)/\SqL K H a (ns.map V.int)/\ns.drop i=e++r/\i<=ns.length/\PostA K P w ad tb rd dx a A H t x (i+e.length) Q
def kR:SP:=fun K P w ad vs H Q _=>∃ (k:Int)(n s u:List Int),n.length<=100/\s.length<=100/\u.length<=100/\AnsSp (.province k n s u) (k::(n.length:Int)::(n++(s.length:Int)::(s++(u.length:Int)::u))) K P w ad vs H Q
def sp_answer_land:SP:=fun K P w ad vs H Q _=>∃ (p q:Int),AnsSp (.land p q) [p,q] K P w ad vs H Q
def sp_answer_sea:SP:=fun K P w ad vs H Q _=>∃ (p s q u:Int),AnsSp (.sea p s q u) [p,s,q,u] K P w ad vs H Q
def sp_answer_man:SP:=fun K P w ad vs H Q _=>∃ (pw f p s:Int),AnsSp (.man pw f p s) [pw,f,p,s] K P w ad vs H Q
def sp_answer_read:SP:=fun K P w ad vs H Q _=>∃ (pw:Int)(x:List Int),x.length<=3000/\AnsSp (.read pw x) (pw::(x.length:Int)::x) K P w ad vs H Q
abbrev O_answer_land:=DO "answer_land" 3 ["table","reader"] sp_answer_land
theorem ok_answer_land (F:Fun K "answer_land" "answer_land" kO f fd)(T:Txt K mg ad)(D_add_land_link:O_add_land_link P w K mg base ad)(D_Reader_take_numbers:bM P w K mg base ad):FnOk P w K mg base CX0 3 f fd ["table","reader"] (sp_answer_land K P w ad):=by
 refine F.ok sc_answer_land (fun vs H Q E h=>?_) (fun _ A _ s H vs Q E hr h=>?_)
 ·obtain⟨p,q,tb,rd,dx,a,A,t,ns,r,i,rfl,_⟩:=h;rfl
 ·obtain⟨p,q,tb,rd,dx,a,A,t,ns,r,i,rfl,hT,h1,hS,hd,hi,k⟩:=h
  refine⟨_,(sC (aD (i:=2) sc_answer_land.nd rfl (Or.inl rfl) (aH (pv 1) T.cl_Reader D_Reader_take_numbers hr (pC eJ pN)))
   (sO (sR (aT (pC (eD D_add_land_link hr (pC (pv 0) (pC (aN aP (pv 2) eJ (fun _ _=>rfl)) (pC (aN aP (pv 2) eJ (fun _ _=>rfl)) pN)))) pN))))),?_⟩
  obtain⟨d1,d2,d3⟩:=drop_nums hd hi;walk_at "rd";refine⟨_,_,h1,bP,rd,dx,a,ns,i,2,rfl,h1,hS,d2,fun y ny=>?_⟩
  rw [show(ns.drop i).take 2=[p,q] from d1]
  obtain⟨tk,hy⟩:=Took.row (j:=i+2) (xs:=[V.int p,V.int q]) h1 ny
  refine⟨_,rfl,_,SqL.of hy,_,aV (j:=0) rfl,_,rfl,_,SqL.of hy,_,aV (j:=1) rfl,tb,A,t,p,q,rfl,tk.tab hT,?_⟩
  exact k.toP hT tk
abbrev O_answer_sea:=DO "answer_sea" 4 ["table","reader"] sp_answer_sea
theorem ok_answer_sea (F:Fun K "answer_sea" "answer_sea" st_answer_sea f fd)(T:Txt K mg ad)(D_add_sea_link:O_add_sea_link P w K mg base ad)(D_Reader_take_numbers:bM P w K mg base ad):FnOk P w K mg base CX0 4 f fd ["table","reader"] (sp_answer_sea K P w ad):=by
 refine F.ok sc_answer_sea (fun vs H Q E h=>?_) (fun _ A _ s H vs Q E hr h=>?_)
 ·obtain⟨p,s,q,u,tb,rd,dx,a,A,t,ns,r,i,rfl,_⟩:=h;rfl
 ·obtain⟨p,s',q,u,tb,rd,dx,a,A,t,ns,r,i,rfl,hT,h1,hS,hd,hi,k⟩:=h
  refine⟨_,(sC (aD (i:=2) sc_answer_sea.nd rfl (Or.inl rfl) (aH (pv 1) T.cl_Reader D_Reader_take_numbers hr (pC eJ pN)))
   (sO (sR (aT (pC (eD D_add_sea_link hr (pC (pv 0) (pC (aN aP (pv 2) eJ (fun _ _=>rfl)) (pC (aN aP (pv 2) eJ (fun _ _=>rfl)) (pC (aN aP (pv 2) eJ (fun _ _=>rfl)) (pC (aN aP (pv 2) eJ (fun _ _=>rfl)) pN)))))) pN))))),?_⟩
  obtain⟨d1,d2,d3⟩:=drop_nums hd hi;walk_at "rd";refine⟨_,_,h1,bP,rd,dx,a,ns,i,4,rfl,h1,hS,d2,fun y ny=>?_⟩
  rw [show(ns.drop i).take 4=[p,s',q,u] from d1]
  obtain⟨tk,hy⟩:=Took.row (j:=i+4) (xs:=[V.int p,V.int s',V.int q,V.int u]) h1 ny
  refine⟨_,rfl,_,SqL.of hy,_,aV (j:=0) rfl,_,rfl,_,SqL.of hy,_,aV (j:=1) rfl,_,rfl,_,SqL.of hy,_,aV (j:=2) rfl,_,rfl,_,SqL.of hy,_,aV (j:=3) rfl,tb,A,t,p,s',q,u,rfl,tk.tab hT,?_⟩
  exact k.toP hT tk
abbrev O_answer_man:=DO "answer_man" 4 ["table","reader"] sp_answer_man
theorem ok_answer_man (F:Fun K "answer_man" "answer_man" st_answer_man f fd)(T:Txt K mg ad)(D_add_unit:O_add_unit P w K mg base ad)(D_Reader_take_numbers:bM P w K mg base ad):FnOk P w K mg base CX0 4 f fd ["table","reader"] (sp_answer_man K P w ad):=by
 refine F.ok sc_answer_man (fun vs H Q E h=>?_) (fun _ A _ s H vs Q E hr h=>?_)
 ·obtain⟨p,s,q,u,tb,rd,dx,a,A,t,ns,r,i,rfl,_⟩:=h;rfl
 ·obtain⟨p,s',q,u,tb,rd,dx,a,A,t,ns,r,i,rfl,hT,h1,hS,hd,hi,k⟩:=h
  refine⟨_,(sC (aD (i:=2) sc_answer_man.nd rfl (Or.inl rfl) (aH (pv 1) T.cl_Reader D_Reader_take_numbers hr (pC eJ pN)))
   (sO (sR (aT (pC (eD D_add_unit hr (pC (pv 0) (pC (aN aP (pv 2) eJ (fun _ _=>rfl)) (pC (aN aP (pv 2) eJ (fun _ _=>rfl)) (pC (aN aP (pv 2) eJ (fun _ _=>rfl)) (pC (aN aP (pv 2) eJ (fun _ _=>rfl)) pN)))))) pN))))),?_⟩
  obtain⟨d1,d2,d3⟩:=drop_nums hd hi;walk_at "rd";refine⟨_,_,h1,bP,rd,dx,a,ns,i,4,rfl,h1,hS,d2,fun y ny=>?_⟩
  rw [show(ns.drop i).take 4=[p,s',q,u] from d1]
  obtain⟨tk,hy⟩:=Took.row (j:=i+4) (xs:=[V.int p,V.int s',V.int q,V.int u]) h1 ny
  refine⟨_,rfl,_,SqL.of hy,_,aV (j:=0) rfl,_,rfl,_,SqL.of hy,_,aV (j:=1) rfl,_,rfl,_,SqL.of hy,_,aV (j:=2) rfl,_,rfl,_,SqL.of hy,_,aV (j:=3) rfl,tb,A,t,p,s',q,u,rfl,tk.tab hT,?_⟩
  exact k.toP hT tk
abbrev O_answer_read:=DO "answer_read" 12 ["table","reader"] sp_answer_read
theorem ok_answer_read (F:Fun K "answer_read" "answer_read" kN f fd)(T:Txt K mg ad)(D_read_text:O_read_text P w K mg base ad)(D_Reader_take_row:eK P w K mg base ad)(D_Reader_take_number:bW P w K mg base ad):FnOk P w K mg base CX0 12 f fd ["table","reader"] (sp_answer_read K P w ad):=by
 refine F.ok sc_answer_read (fun vs H Q E h=>?_) (fun _ A _ s H vs Q E hr h=>?_)
 ·obtain⟨pw,x,_,tb,rd,dx,a,A,t,ns,r,i,rfl,_⟩:=h;rfl
 ·obtain⟨pw,x,hx,tb,rd,dx,a,A,t,ns,r,i,rfl,hT,h1,hS,hd,hi,k⟩:=h
  refine⟨_,(sC (aD (i:=2) sc_answer_read.nd rfl (Or.inl rfl) (aU (pv 1) T.cl_Reader D_Reader_take_number hr))
   (sO (sR (eD D_read_text hr (pC (pv 0) (pC (pv 2) (pC (aU (pv 1) T.cl_Reader D_Reader_take_row hr) pN))))))),?_⟩
  obtain⟨d1,d2⟩:=jF (show ns.drop i=pw::((x.length:Int)::(x++r)) from hd)
  obtain⟨f1,f2,f3,f4⟩:=drop_row d2;have tk1:=Took.num (j:=i+1) h1
  walk_at "rd";refine⟨_,_,h1,aO,rd,dx,a,ns,i,pw,rfl,h1,hS,d1,?_⟩
  refine⟨_,_,tk1.now,bT,rd,dx,a,ns,i+1,x.length,rfl,tk1.now,tk1.sql hS,f1,f2,fun y ny=>?_⟩
  rw [f3];obtain⟨tk2,hy⟩:=Took.row (j:=i+1+1+x.length) (xs:=x.map V.int) tk1.now ny
  have tk:=tk1.trans tk2;refine⟨tb,y,A,t,pw,x,rfl,tk.tab hT,SqL.of hy,hx,?_⟩
  refine PostA.toL (i:=i) k hT ?_
  have e:i+1+1+x.length=i+(pw::(x.length:Int)::x).length:=by simp only [List.length_cons];omega
  rw [<-e];exact tk
abbrev O_answer_province:=DO "answer_province" 5 ["table","reader"] kR
theorem ok_answer_province (F:Fun K "answer_province" "answer_province" fW f fd)(T:Txt K mg ad)(D_add_province:O_add_province P w K mg base ad)(D_Reader_take_row:eK P w K mg base ad)(D_Reader_take_number:bW P w K mg base ad):FnOk P w K mg base CX0 5 f fd ["table","reader"] (kR K P w ad):=by
 refine F.ok sc_answer_province (fun vs H Q E h=>?_) (fun _ A _ s H vs Q E hr h=>?_)
 ·obtain⟨kk,n,s,u,_,_,_,tb,rd,dx,a,A,t,ns,r,i,rfl,_⟩:=h;rfl
 ·obtain⟨kk,n,s',u,ln,ls,lu,tb,rd,dx,a,A,t,ns,r,i,rfl,hT,h1,hS,hd,hi,k⟩:=h
  refine⟨_,(sC (aD (i:=2) sc_answer_province.nd rfl (Or.inl rfl) (aU (pv 1) T.cl_Reader D_Reader_take_number hr))
   (sC (aD (i:=3) sc_answer_province.nd rfl (Or.inl rfl) (aU (pv 1) T.cl_Reader D_Reader_take_row hr))
   (sC (aD (i:=4) sc_answer_province.nd rfl (Or.inl rfl) (aU (pv 1) T.cl_Reader D_Reader_take_row hr))
   (sC (aD (i:=5) sc_answer_province.nd rfl (Or.inl rfl) (aU (pv 1) T.cl_Reader D_Reader_take_row hr))
   (sO (sR (aT (pC (eD D_add_province hr (pC (pv 0) (pC (pv 2) (pC (pv 3) (pC (pv 4) (pC (pv 5) pN)))))) pN)))))))),?_⟩
  have hd':ns.drop i=kk::((n.length:Int)::(n++((s'.length:Int)::(s'++((u.length:Int)::(u++r)))))):=by
   rw [hd];simp
  obtain⟨d1,d2⟩:=jF hd';obtain⟨f1,f2,f3,f4⟩:=drop_row d2;obtain⟨g1,g2,g3,g4⟩:=drop_row f4;obtain⟨m1,m2,m3,m4⟩:=drop_row g4;have tk1:=Took.num (j:=i+1) h1
  walk_at "s1";refine⟨_,_,h1,aO,rd,dx,a,ns,i,kk,rfl,h1,hS,d1,?_⟩
  walk_at "c1";generalize upd H rd (rdO ad dx a (i+1))=H1 at tk1 ⊢;walk_at "s2";refine⟨_,_,tk1.now,bT,rd,dx,a,ns,i+1,n.length,rfl,tk1.now,tk1.sql hS,f1,f2,fun y1 ny1=>?_⟩
  rw [f3,e2];clear e2 k2;obtain⟨tk2,hy1⟩:=Took.row (j:=i+1+1+n.length) (xs:=n.map V.int) tk1.now ny1
  generalize upd (upd H1 y1 (.lst (n.map V.int))) rd (rdO ad dx a (i+1+1+n.length))=H2 at tk2 hy1 ⊢;have tk12:=tk1.trans tk2;walk_at "s3";refine⟨_,_,tk2.now,bT,rd,dx,a,ns,i+1+1+n.length,s'.length,rfl,tk2.now,tk12.sql hS,g1,g2,fun y2 ny2=>?_⟩
  rw [g3,e3];clear e3 k3;obtain⟨tk3,hy2⟩:=Took.row (j:=i+1+1+n.length+1+s'.length) (xs:=s'.map V.int) tk2.now ny2
  generalize upd (upd H2 y2 (.lst (s'.map V.int))) rd (rdO ad dx a (i+1+1+n.length+1+s'.length))=H3 at tk3 hy2 ⊢;have tk13:=tk12.trans tk3;walk_at "s4";refine⟨_,_,tk3.now,bT,rd,dx,a,ns,i+1+1+n.length+1+s'.length,u.length,rfl,tk3.now,tk13.sql hS,m1,m2,fun y3 ny3=>?_⟩
  rw [m3,e4];clear e4 k4;obtain⟨tk4,hy3⟩:=Took.row (j:=i+1+1+n.length+1+s'.length+1+u.length) (xs:=u.map V.int) tk3.now ny3
  generalize upd (upd H3 y3 (.lst (u.map V.int))) rd (rdO ad dx a (i+1+1+n.length+1+s'.length+1+u.length))=H4 at tk4 hy3 ⊢;have tk:=tk13.trans tk4;walk_at "rd";refine⟨tb,y1,y2,y3,A,t,kk,n,s',u,rfl,tk.tab hT,SqL.of (tk4.lst (tk3.lst hy1)),SqL.of (tk4.lst hy2),SqL.of hy3,ln,ls,lu,?_⟩
  have e:i+1+1+n.length+1+s'.length+1+u.length=i+(kk::(n.length:Int)::(n++(s'.length:Int)::(s'++(u.length:Int)::u))).length:=by
   simp only [List.length_cons,List.length_append];omega
  rw [e] at tk;exact k.toP hT tk
def cD:Call->List Int
 | .clear=>[0]
 | .province k n s u=>1::k::(n.length:Int)::(n++(s.length:Int)::(s++(u.length:Int)::u))
 | .land p q=>[2,p,q]
 | .sea p s q u=>[3,p,s,q,u]
 | .man pw f p s=>[4,pw,f,p,s]
 | .gone p=>[5,p]
 | .read pw x=>6::pw::(x.length:Int)::x
 | .print pw=>[7,pw]
 | .order p=>[8,p]
 | .find x=>9::(x.length:Int)::x
 | .orders=>[10]
def SmallC:Call->Prop
 | .province _ n s u=>n.length<=100/\s.length<=100/\u.length<=100
 | .read _ x=>x.length<=3000
 | .find x=>x.length<=3000
 | _=>True
def kS:SP:=fun K P w ad vs H Q _=>∃ (x:Call),SmallC x/\AnsSp x (cD x) K P w ad vs H Q
theorem PA_later {tb rd dx a:Addr}{H H1:Hp}{t:Table}{x:Call}{i j l:Nat}{Q:VK}(h:Took ad rd dx a i l H H1)(hT:TabAt K P w ad H tb A t)(k:PostA K P w ad tb rd dx a A H t x j Q):PostA K P w ad tb rd dx a A H1 t x j Q:=fun A' H' D hT' hpv hrd kp hne hD =>
 k A' H' D hT' (hpv.imp id h.free) hrd (fun b o e z1 z2 z3=>kp b o (h.kp b o e z2) z1 z2 z3) hne hD
theorem ok_answer_call (F:Fun K "answer_call" "answer_call" gQ f fd)(T:Txt K mg ad)(D_tell_orders:O_tell_orders P w K mg base ad)(D_find_provinces:O_find_provinces P w K mg base ad)(D_Reader_take_row:eK P w K mg base ad)(D_tell_order:O_tell_order P w K mg base ad)(D_Reader_take_number:bW P w K mg base ad)(D_print_orders:O_print_orders P w K mg base ad)(D_answer_read:O_answer_read P w K mg base ad)(D_remove_unit:O_remove_unit P w K mg base ad)(D_answer_man:O_answer_man P w K mg base ad)(D_answer_sea:O_answer_sea P w K mg base ad)(D_answer_land:O_answer_land P w K mg base ad)(D_answer_province:O_answer_province P w K mg base ad)(D_Table_make_empty:gG P w K mg base ad):FnOk P w K mg base CX0 13 f fd ["table","reader"] (kS K P w ad):=by
 refine F.ok sc_answer_call (fun vs H Q E h=>?_) (fun _ A _ s H vs Q E hr h=>?_)
 ·obtain⟨x,_,tb,rd,dx,a,A,t,ns,r,i,rfl,_⟩:=h;rfl
 ·obtain⟨x,hsm,tb,rd,dx,a,A,t,ns,r,i,rfl,hT,h1,hS,hd,hi,k⟩:=h
  refine⟨_,(sC (aD (i:=2) sc_answer_call.nd rfl (Or.inl rfl) (aU (pv 1) T.cl_Reader D_Reader_take_number hr))
   (sC (aB (tR aM (pv 2) (eG rfl T.g_CLEAR) (nMk _)) (sC (bZ (aU (pv 0) T.cl_Table D_Table_make_empty hr))
   (sO (sR (aT (pC eJ pN))))) sN)
   (sC (aB (tR aM (pv 2) (eG rfl T.g_PROVINCE) (nMk _)) (sO (sR (eD D_answer_province hr (pC (pv 0) (pC (pv 1) pN))))) sN)
   (sC (aB (tR aM (pv 2) (eG rfl T.g_LAND_LINK) (nMk _)) (sO (sR (eD D_answer_land hr (pC (pv 0) (pC (pv 1) pN))))) sN)
   (sC (aB (tR aM (pv 2) (eG rfl T.g_SEA_LINK) (nMk _)) (sO (sR (eD D_answer_sea hr (pC (pv 0) (pC (pv 1) pN))))) sN)
   (sC (aB (tR aM (pv 2) (eG rfl T.g_MAN) (nMk _)) (sO (sR (eD D_answer_man hr (pC (pv 0) (pC (pv 1) pN))))) sN)
   (sC (aB (tR aM (pv 2) (eG rfl T.g_GONE) (nMk _)) (sO (sR (aT (pC (eD D_remove_unit hr (pC (pv 0) (pC (aU (pv 1) T.cl_Reader D_Reader_take_number hr) pN))) pN)))) sN)
   (sC (aB (tR aM (pv 2) (eG rfl T.g_READ) (nMk _)) (sO (sR (eD D_answer_read hr (pC (pv 0) (pC (pv 1) pN))))) sN)
   (sC (aB (tR aM (pv 2) (eG rfl T.g_PRINTED) (nMk _)) (sO (sR (eD D_print_orders hr (pC (pv 0) (pC (aU (pv 1) T.cl_Reader D_Reader_take_number hr) pN))))) sN)
   (sC (aB (tR aM (pv 2) (eG rfl T.g_ORDER) (nMk _)) (sO (sR (eD D_tell_order hr (pC (pv 0) (pC (aU (pv 1) T.cl_Reader D_Reader_take_number hr) pN))))) sN)
   (sC (aB (tR aM (pv 2) (eG rfl T.g_FIND) (nMk _)) (sO (sR (eD D_find_provinces hr (pC (pv 0) (pC (aU (pv 1) T.cl_Reader D_Reader_take_row hr) pN))))) sN)
   (sC (aB (tR aM (pv 2) (eG rfl T.g_ORDERS) (nMk _)) (sO (sR (eD D_tell_orders hr (pC (pv 0) pN)))) sN)
   (sO ps_never))))))))))))),?_⟩
  have tk1:=Took.num (j:=i+1) h1
  have hS1:=tk1.sql hS;have hT1:=tk1.tab hT;walk_at "s1";refine⟨_,_,h1,aO,rd,dx,a,ns,i,(cD x).headD 0,rfl,h1,hS,(jF (x:=(cD x).headD 0) (r:=(cD x).tail++r) (by rw [hd];cases x <;> rfl)).1,?_⟩
  have hd1:ns.drop (i+1)=(cD x).tail++r:=(jF (x:=(cD x).headD 0) (by rw [hd];cases x <;> rfl)).2
  have hi1:i+1<=ns.length:=drop_le (x:=(cD x).headD 0) (r:=(cD x).tail++r) (by rw [hd];cases x <;> rfl)
  walk_at "c1";generalize upd H rd (rdO ad dx a (i+1))=H1 at tk1 hS1 hT1 ⊢;cases x with
  | clear  =>
   walk_at "s2";refine⟨rfl,?_⟩
   rw [if_pos (by rfl)]
   refine⟨_,_,hT1.obj,f_Table_no_make_empty,tb,A.dx,_,rfl,hT1.obj,.inr ⟨_,_,_,_,rfl⟩,fun A' H2 hT2' nA kp=>⟨by show 1<=sizeLine;decide,fun D nD=>?_⟩⟩
   have hT2:TabAt K P w ad H2 tb A' Vbsoac.start:=hT2'.retag (z':=ad.fx) rfl ⟨_,kp _ _ hT1.fx.choose_spec (bB hT1.fx.choose_spec hT1.obj (fun e=>nomatch e))⟩
   have s3:=Same.new (o:=.lst [V.int 0]) nD
   obtain⟨qs',hq',_⟩:=hT2.provs;obtain⟨qs,hq,_⟩:=hT.provs;have rtb:rd≠tb:=bB h1 hT.obj (fun e=>by injection e with _ _ e;exact absurd (congrArg List.length e) (by rw [f_Reader_len,f_Table_len];decide))
   refine k A' _ D (hT2.same s3) (.inr (tk1.free nA)) (s3 _ _ (kp _ _ tk1.now rtb)) (fun b o e z1 z2 z3=>?_) (Ne.symm (nN hq' nD)) uS
   have btb:b≠tb:=bB e hT.obj (fun z=>by rw [z] at z3;cases z3)
   have:=kp _ _ (tk1.kp b o e z2) btb
   exact⟨s3 _ _ this,nN this nD⟩
  | province k' n s' u =>
   walk_at "s2";refine⟨rfl,?_⟩
   rw [if_neg (by intro z;exact absurd (show(1:Int)=0 from z) (by decide)),e2]
   clear e2 k2;walk_at "s3";refine⟨rfl,?_⟩
   rw [if_pos (by rfl)]
   refine⟨k',n,s',u,hsm.1,hsm.2.1,hsm.2.2,tb,rd,dx,a,A,t,ns,r,i+1,rfl,hT1,tk1.now,hS1,hd1,hi1,PA_later tk1 hT ?_⟩
   have e:i+1+(k'::(n.length:Int)::(n++(s'.length:Int)::(s'++(u.length:Int)::u))).length=i+(cD (.province k' n s' u)).length:=by simp only [cD,List.length_cons,List.length_append,List.length_nil] <;> omega
   rw [e];exact k
  | land p q =>
   walk_at "s2";refine⟨rfl,?_⟩
   rw [if_neg (by intro z;exact absurd (show(2:Int)=0 from z) (by decide)),e2]
   clear e2 k2;walk_at "s3";refine⟨rfl,?_⟩
   rw [if_neg (by intro z;exact absurd (show(2:Int)=1 from z) (by decide)),e3]
   clear e3 k3;walk_at "s4";refine⟨rfl,?_⟩
   rw [if_pos (by rfl)]
   refine⟨p,q,tb,rd,dx,a,A,t,ns,r,i+1,rfl,hT1,tk1.now,hS1,hd1,hi1,PA_later tk1 hT ?_⟩
   have e:i+1+([p,q]).length=i+(cD (.land p q)).length:=by simp only [cD,List.length_cons,List.length_append,List.length_nil] <;> omega
   rw [e];exact k
  | sea p s' q u =>
   walk_at "s2";refine⟨rfl,?_⟩
   rw [if_neg (by intro z;exact absurd (show(3:Int)=0 from z) (by decide)),e2]
   clear e2 k2;walk_at "s3";refine⟨rfl,?_⟩
   rw [if_neg (by intro z;exact absurd (show(3:Int)=1 from z) (by decide)),e3]
   clear e3 k3;walk_at "s4";refine⟨rfl,?_⟩
   rw [if_neg (by intro z;exact absurd (show(3:Int)=2 from z) (by decide)),e4]
   clear e4 k4;walk_at "s5";refine⟨rfl,?_⟩
   rw [if_pos (by rfl)]
   refine⟨p,s',q,u,tb,rd,dx,a,A,t,ns,r,i+1,rfl,hT1,tk1.now,hS1,hd1,hi1,PA_later tk1 hT ?_⟩
   have e:i+1+([p,s',q,u]).length=i+(cD (.sea p s' q u)).length:=by simp only [cD,List.length_cons,List.length_append,List.length_nil] <;> omega
   rw [e];exact k
  | man pw f' p s' =>
   walk_at "s2";refine⟨rfl,?_⟩
   rw [if_neg (by intro z;exact absurd (show(4:Int)=0 from z) (by decide)),e2]
   clear e2 k2;walk_at "s3";refine⟨rfl,?_⟩
   rw [if_neg (by intro z;exact absurd (show(4:Int)=1 from z) (by decide)),e3]
   clear e3 k3;walk_at "s4";refine⟨rfl,?_⟩
   rw [if_neg (by intro z;exact absurd (show(4:Int)=2 from z) (by decide)),e4]
   clear e4 k4;walk_at "s5";refine⟨rfl,?_⟩
   rw [if_neg (by intro z;exact absurd (show(4:Int)=3 from z) (by decide)),e5]
   clear e5 k5;walk_at "s6";refine⟨rfl,?_⟩
   rw [if_pos (by rfl)]
   refine⟨pw,f',p,s',tb,rd,dx,a,A,t,ns,r,i+1,rfl,hT1,tk1.now,hS1,hd1,hi1,PA_later tk1 hT ?_⟩
   have e:i+1+([pw,f',p,s']).length=i+(cD (.man pw f' p s')).length:=by simp only [cD,List.length_cons,List.length_append,List.length_nil] <;> omega
   rw [e];exact k
  | gone p =>
   walk_at "s2";refine⟨rfl,?_⟩
   rw [if_neg (by intro z;exact absurd (show(5:Int)=0 from z) (by decide)),e2]
   clear e2 k2;walk_at "s3";refine⟨rfl,?_⟩
   rw [if_neg (by intro z;exact absurd (show(5:Int)=1 from z) (by decide)),e3]
   clear e3 k3;walk_at "s4";refine⟨rfl,?_⟩
   rw [if_neg (by intro z;exact absurd (show(5:Int)=2 from z) (by decide)),e4]
   clear e4 k4;walk_at "s5";refine⟨rfl,?_⟩
   rw [if_neg (by intro z;exact absurd (show(5:Int)=3 from z) (by decide)),e5]
   clear e5 k5;walk_at "s6";refine⟨rfl,?_⟩
   rw [if_neg (by intro z;exact absurd (show(5:Int)=4 from z) (by decide)),e6]
   clear e6 k6;walk_at "s7";refine⟨rfl,?_⟩
   rw [if_pos (by rfl)]
   obtain⟨d1,d2⟩:=jF (show ns.drop (i+1)=p::r from hd1)
   have tk2:=Took.num (j:=i+1+1) tk1.now
   have tk:=tk1.trans tk2;refine⟨_,_,tk1.now,aO,rd,dx,a,ns,i+1,p,rfl,tk1.now,hS1,d1,?_⟩
   exact⟨tb,A,t,p,rfl,tk.tab hT,k.toP hT tk⟩
  | read pw y =>
   walk_at "s2";refine⟨rfl,?_⟩
   rw [if_neg (by intro z;exact absurd (show(6:Int)=0 from z) (by decide)),e2]
   clear e2 k2;walk_at "s3";refine⟨rfl,?_⟩
   rw [if_neg (by intro z;exact absurd (show(6:Int)=1 from z) (by decide)),e3]
   clear e3 k3;walk_at "s4";refine⟨rfl,?_⟩
   rw [if_neg (by intro z;exact absurd (show(6:Int)=2 from z) (by decide)),e4]
   clear e4 k4;walk_at "s5";refine⟨rfl,?_⟩
   rw [if_neg (by intro z;exact absurd (show(6:Int)=3 from z) (by decide)),e5]
   clear e5 k5;walk_at "s6";refine⟨rfl,?_⟩
   rw [if_neg (by intro z;exact absurd (show(6:Int)=4 from z) (by decide)),e6]
   clear e6 k6;walk_at "s7";refine⟨rfl,?_⟩
   rw [if_neg (by intro z;exact absurd (show(6:Int)=5 from z) (by decide)),e7]
   clear e7 k7;walk_at "s8";refine⟨rfl,?_⟩
   rw [if_pos (by rfl)]
   refine⟨pw,y,hsm,tb,rd,dx,a,A,t,ns,r,i+1,rfl,hT1,tk1.now,hS1,hd1,hi1,PA_later tk1 hT ?_⟩
   have e:i+1+(pw::(y.length:Int)::y).length=i+(cD (.read pw y)).length:=by simp only [cD,List.length_cons,List.length_append,List.length_nil] <;> omega
   rw [e];exact k
  | print pw =>
   walk_at "s2";refine⟨rfl,?_⟩
   rw [if_neg (by intro z;exact absurd (show(7:Int)=0 from z) (by decide)),e2]
   clear e2 k2;walk_at "s3";refine⟨rfl,?_⟩
   rw [if_neg (by intro z;exact absurd (show(7:Int)=1 from z) (by decide)),e3]
   clear e3 k3;walk_at "s4";refine⟨rfl,?_⟩
   rw [if_neg (by intro z;exact absurd (show(7:Int)=2 from z) (by decide)),e4]
   clear e4 k4;walk_at "s5";refine⟨rfl,?_⟩
   rw [if_neg (by intro z;exact absurd (show(7:Int)=3 from z) (by decide)),e5]
   clear e5 k5;walk_at "s6";refine⟨rfl,?_⟩
   rw [if_neg (by intro z;exact absurd (show(7:Int)=4 from z) (by decide)),e6]
   clear e6 k6;walk_at "s7";refine⟨rfl,?_⟩
   rw [if_neg (by intro z;exact absurd (show(7:Int)=5 from z) (by decide)),e7]
   clear e7 k7;walk_at "s8";refine⟨rfl,?_⟩
   rw [if_neg (by intro z;exact absurd (show(7:Int)=6 from z) (by decide)),e8]
   clear e8 k8;walk_at "s9";refine⟨rfl,?_⟩
   rw [if_pos (by rfl)]
   obtain⟨d1,d2⟩:=jF (show ns.drop (i+1)=pw::r from hd1)
   have tk2:=Took.num (j:=i+1+1) tk1.now
   have tk:=tk1.trans tk2;refine⟨_,_,tk1.now,aO,rd,dx,a,ns,i+1,pw,rfl,tk1.now,hS1,d1,?_⟩
   exact⟨tb,A,t,pw,rfl,tk.tab hT,k.toL hT tk⟩
  | order p =>
   walk_at "s2";refine⟨rfl,?_⟩
   rw [if_neg (by intro z;exact absurd (show(8:Int)=0 from z) (by decide)),e2]
   clear e2 k2;walk_at "s3";refine⟨rfl,?_⟩
   rw [if_neg (by intro z;exact absurd (show(8:Int)=1 from z) (by decide)),e3]
   clear e3 k3;walk_at "s4";refine⟨rfl,?_⟩
   rw [if_neg (by intro z;exact absurd (show(8:Int)=2 from z) (by decide)),e4]
   clear e4 k4;walk_at "s5";refine⟨rfl,?_⟩
   rw [if_neg (by intro z;exact absurd (show(8:Int)=3 from z) (by decide)),e5]
   clear e5 k5;walk_at "s6";refine⟨rfl,?_⟩
   rw [if_neg (by intro z;exact absurd (show(8:Int)=4 from z) (by decide)),e6]
   clear e6 k6;walk_at "s7";refine⟨rfl,?_⟩
   rw [if_neg (by intro z;exact absurd (show(8:Int)=5 from z) (by decide)),e7]
   clear e7 k7;walk_at "s8";refine⟨rfl,?_⟩
   rw [if_neg (by intro z;exact absurd (show(8:Int)=6 from z) (by decide)),e8]
   clear e8 k8;walk_at "s9";refine⟨rfl,?_⟩
   rw [if_neg (by intro z;exact absurd (show(8:Int)=7 from z) (by decide)),e9]
   clear e9 k9;refine bY fun k10 e10=>?_
   walk_at "rd";refine⟨rfl,?_⟩
   rw [if_pos (by rfl)]
   obtain⟨d1,d2⟩:=jF (show ns.drop (i+1)=p::r from hd1)
   have tk2:=Took.num (j:=i+1+1) tk1.now
   have tk:=tk1.trans tk2;refine⟨_,_,tk1.now,aO,rd,dx,a,ns,i+1,p,rfl,tk1.now,hS1,d1,?_⟩
   exact⟨tb,A,t,p,rfl,tk.tab hT,k.toL hT tk⟩
  | find y =>
   walk_at "s2";refine⟨rfl,?_⟩
   rw [if_neg (by intro z;exact absurd (show(9:Int)=0 from z) (by decide)),e2]
   clear e2 k2;walk_at "s3";refine⟨rfl,?_⟩
   rw [if_neg (by intro z;exact absurd (show(9:Int)=1 from z) (by decide)),e3]
   clear e3 k3;walk_at "s4";refine⟨rfl,?_⟩
   rw [if_neg (by intro z;exact absurd (show(9:Int)=2 from z) (by decide)),e4]
   clear e4 k4;walk_at "s5";refine⟨rfl,?_⟩
   rw [if_neg (by intro z;exact absurd (show(9:Int)=3 from z) (by decide)),e5]
   clear e5 k5;walk_at "s6";refine⟨rfl,?_⟩
   rw [if_neg (by intro z;exact absurd (show(9:Int)=4 from z) (by decide)),e6]
   clear e6 k6;walk_at "s7";refine⟨rfl,?_⟩
   rw [if_neg (by intro z;exact absurd (show(9:Int)=5 from z) (by decide)),e7]
   clear e7 k7;walk_at "s8";refine⟨rfl,?_⟩
   rw [if_neg (by intro z;exact absurd (show(9:Int)=6 from z) (by decide)),e8]
   clear e8 k8;walk_at "s9";refine⟨rfl,?_⟩
   rw [if_neg (by intro z;exact absurd (show(9:Int)=7 from z) (by decide)),e9]
   clear e9 k9;refine bY fun k10 e10=>?_
   walk_at "rd";refine⟨rfl,?_⟩
   rw [if_neg (by intro z;exact absurd (show(9:Int)=8 from z) (by decide)),e10]
   clear e10 k10;refine bY fun k11 e11=>?_
   walk_at "rd";refine⟨rfl,?_⟩
   rw [if_pos (by rfl)]
   obtain⟨f1,f2,f3,f4⟩:=drop_row (show ns.drop (i+1)=(y.length:Int)::(y++r) from hd1)
   refine⟨_,_,tk1.now,bT,rd,dx,a,ns,i+1,y.length,rfl,tk1.now,hS1,f1,f2,fun q nq=>?_⟩
   rw [f3];obtain⟨tk2,hq⟩:=Took.row (j:=i+1+1+y.length) (xs:=y.map V.int) tk1.now nq
   generalize upd (upd H1 q (.lst (y.map V.int))) rd (rdO ad dx a (i+1+1+y.length))=H2 at tk2 hq ⊢;have tk:=tk1.trans tk2;have e:i+1+1+y.length=i+(cD (.find y)).length:=by simp only [cD,List.length_cons] <;> omega
   rw [e] at tk;exact⟨tb,q,A,t,y,rfl,tk.tab hT,SqL.of hq,hsm,k.toL hT tk⟩
  | orders  =>
   walk_at "s2";refine⟨rfl,?_⟩
   rw [if_neg (by intro z;exact absurd (show(10:Int)=0 from z) (by decide)),e2]
   clear e2 k2;walk_at "s3";refine⟨rfl,?_⟩
   rw [if_neg (by intro z;exact absurd (show(10:Int)=1 from z) (by decide)),e3]
   clear e3 k3;walk_at "s4";refine⟨rfl,?_⟩
   rw [if_neg (by intro z;exact absurd (show(10:Int)=2 from z) (by decide)),e4]
   clear e4 k4;walk_at "s5";refine⟨rfl,?_⟩
   rw [if_neg (by intro z;exact absurd (show(10:Int)=3 from z) (by decide)),e5]
   clear e5 k5;walk_at "s6";refine⟨rfl,?_⟩
   rw [if_neg (by intro z;exact absurd (show(10:Int)=4 from z) (by decide)),e6]
   clear e6 k6;walk_at "s7";refine⟨rfl,?_⟩
   rw [if_neg (by intro z;exact absurd (show(10:Int)=5 from z) (by decide)),e7]
   clear e7 k7;walk_at "s8";refine⟨rfl,?_⟩
   rw [if_neg (by intro z;exact absurd (show(10:Int)=6 from z) (by decide)),e8]
   clear e8 k8;walk_at "s9";refine⟨rfl,?_⟩
   rw [if_neg (by intro z;exact absurd (show(10:Int)=7 from z) (by decide)),e9]
   clear e9 k9;refine bY fun k10 e10=>?_
   walk_at "rd";refine⟨rfl,?_⟩
   rw [if_neg (by intro z;exact absurd (show(10:Int)=8 from z) (by decide)),e10]
   clear e10 k10;refine bY fun k11 e11=>?_
   walk_at "rd";refine⟨rfl,?_⟩
   rw [if_neg (by intro z;exact absurd (show(10:Int)=9 from z) (by decide)),e11]
   clear e11 k11;refine bY fun k12 e12=>?_
   walk_at "rd";refine⟨rfl,?_⟩
   rw [if_pos (by rfl)]
   exact⟨tb,A,t,rfl,hT1,k.toL hT tk1⟩
def playX:Table->List Call->List (List Int)
 | _,[]=>[]
 | t,x::r=>(Vbsoac.step t x).2::playX (Vbsoac.step t x).1 r
def outOf (t:Table)(xs:List Call):List Int:=PyFlat.told (playX t xs)
theorem outOf_cons (t:Table)(x:Call)(r:List Call):outOf t (x::r)=(((Vbsoac.step t x).2.length:Nat):Int)::((Vbsoac.step t x).2++outOf (Vbsoac.step t x).1 r):=by
 simp only [outOf,playX,PyFlat.told,List.flatMap_cons,List.cons_append]
theorem flatMap_le {α β:Type}{k:Nat}(f:α->List β):∀ (l:List α),(∀ x∈l,(f x).length<=k)->(l.flatMap f).length<=l.length*k
 | [],_=>by simp
 | x::l,h=>by
  have h1:=h x List.mem_cons_self;have h2:=flatMap_le f l fun y hy=>h y (List.mem_cons_of_mem _ hy)
  rw [List.flatMap_cons,List.length_append,List.length_cons,Nat.succ_mul];omega
theorem step_len {t:Table}(wf:WF t)(x:Call):(Vbsoac.step t x).2.length<=2000:=by
 have pf:=wf.few;have mn:=wf.men;cases x with
 | clear=>exact(by decide:1<=2000)
 | province k n s u =>
  simp only [Vbsoac.step]
  repeat' split
  all_goals exact(by decide:1<=2000)
 | land p q =>
  simp only [Vbsoac.step]
  repeat' split
  all_goals exact(by decide:1<=2000)
 | sea p s q u =>
  simp only [Vbsoac.step]
  repeat' split
  all_goals exact(by decide:1<=2000)
 | man pw f p s =>
  simp only [Vbsoac.step]
  repeat' split
  all_goals exact(by decide:1<=2000)
 | gone p =>
  simp only [Vbsoac.step]
  repeat' split
  all_goals exact(by decide:1<=2000)
 | read pw x =>
  simp only [Vbsoac.step];split
  ·exact(by decide:1<=2000)
  ·split
   ·exact(by decide:2<=2000)
   ·simp only [Vbsoac.ints,List.length_map,List.length_cons];have:=flat_len ((reading t pw.toNat (nats x)).wrong.take Vbsoac.ERRORS)
    have l2:((reading t pw.toNat (nats x)).wrong.take Vbsoac.ERRORS).length<=20:=by
     rw [List.length_take];exact Nat.min_le_left _ _
    omega
 | print pw =>
  simp only [Vbsoac.step];split
  ·exact(by decide:1<=2000)
  ·simp only [Vbsoac.row,Vbsoac.ints,List.length_map,List.length_cons];rw [printed_eq]
   have:=flatMap_le (k:=79) (fun u=>if u.power==pw.toNat then lineB t u else []) t.men fun u hu=>by
    show(if u.power==pw.toNat then lineB t u else []).length<=79
    split
    ·exact lineB_len wf (wf.man u hu)
    ·exact Nat.zero_le _
   have:t.men.length*79<=24*79:=Nat.mul_le_mul_right _ mn
   omega
 | order p =>
  simp only [Vbsoac.step];split
  ·exact(by decide:1<=2000)
  ·split
   ·exact(by decide:1<=2000)
   ·simp only [Vbsoac.ints,List.length_map,List.length_append,nums_len,List.length_cons,List.length_nil];decide
 | find x =>
  simp only [Vbsoac.step];split
  ·exact(by decide:1<=2000)
  ·simp only [Vbsoac.row,Vbsoac.ints,List.length_map,List.length_cons]
   have:(Vbsoab.find t.map (nats x)).length<=40:=by
    unfold Vbsoab.find;split
    ·exact(by decide:1<=40)
    ·split
     ·exact Nat.zero_le _
     ·refine Nat.le_trans (List.length_filter_le _ _) ?_
      rw [List.length_range];exact pf
   omega
 | orders =>
  simp only [Vbsoac.step,Vbsoac.ints,List.length_map,List.length_cons]
  have:=flatMap_le (k:=6) (fun(u:Man)=>u.prov::(orderNumbers u.order++[Vbsoac.why (boardOf t.map) t.men u])) t.men fun u hu=>by
   simp only [List.length_cons,List.length_append,nums_len,List.length_nil];decide
  have:t.men.length*6<=24*6:=Nat.mul_le_mul_right _ mn
  omega
theorem row_enc {l x s:List Int}(h:PyFlat.row l=some (x,s)):l=(x.length:Int)::(x++s):=by
 cases l with
 | nil=>cases h
 | cons n r =>
  simp only [PyFlat.row] at h;split at h
  ·next c =>
   simp only [Option.some.injEq,Prod.mk.injEq] at h;obtain⟨rfl,rfl⟩:=h;rw [List.take_append_drop,List.length_take,Nat.min_eq_left c.2];congr 1
   omega
  ·cases h
theorem rows_enc:∀ {k:Nat}{l t:List Int}{xs:List (List Int)},PyFlat.rows k l=some (xs,t)->l=(xs.flatMap fun x=>(x.length:Int)::x)++t/\xs.length=k
 | 0,l,t,xs,h=>by
  simp only [PyFlat.rows,Option.some.injEq,Prod.mk.injEq] at h;obtain⟨rfl,rfl⟩:=h;exact⟨rfl,rfl⟩
 | k+1,l,t,xs,h=>by
  simp only [PyFlat.rows] at h;cases e:PyFlat.row l with
  | none =>
   rw [e] at h;cases h
  | some y =>
   obtain⟨x,s⟩:=y;rw [e] at h;simp only at h
   cases e2:PyFlat.rows k s with
   | none =>
    rw [e2] at h;cases h
   | some z =>
    obtain⟨xs',t'⟩:=z;rw [e2] at h;simp only [Option.some.injEq,Prod.mk.injEq] at h;obtain⟨rfl,rfl⟩:=h;obtain⟨h1,h2⟩:=rows_enc e2;refine⟨?_,by rw [List.length_cons,h2]⟩
    rw [row_enc e,List.flatMap_cons,h1,List.cons_append,List.cons_append,List.append_assoc]
theorem len_0 {α:Type}{l:List α}(h:l.length=0):l=[]:=List.eq_nil_of_length_eq_zero h
theorem len_1 {α:Type}{l:List α}(h:l.length=1):∃ a,l=[a]:=by
 match l,h with
 | [a],_=>exact⟨a,rfl⟩
theorem len_2 {α:Type}{l:List α}(h:l.length=2):∃ a b,l=[a,b]:=by
 match l,h with
 | [a,b],_=>exact⟨a,b,rfl⟩
theorem len_3 {α:Type}{l:List α}(h:l.length=3):∃ a b c,l=[a,b,c]:=by
 match l,h with
 | [a,b,c],_=>exact⟨a,b,c,rfl⟩
theorem len_4 {α:Type}{l:List α}(h:l.length=4):∃ a b c d,l=[a,b,c,d]:=by
 match l,h with
 | [a,b,c,d],_=>exact⟨a,b,c,d,rfl⟩
theorem call_enc {l t:List Int}{c:List (List Int)}(h:PyFlat.call PyVbsoac.shape l=some (c,t))(ha:VbsoacNeutral.asked1 (PyVbsoac.whole c)=true):∃ x,l=cD x++t/\SmallC x/\VbsoacNeutral.callOf (PyVbsoac.whole c)=some x:=by
 cases l with
 | nil=>cases h
 | cons p r =>
  simp only [PyFlat.call] at h;cases hs:PyVbsoac.shape p with
  | none =>
   rw [hs] at h;cases h
  | some nk =>
   obtain⟨n,k⟩:=nk;rw [hs] at h;simp only at h
   split at h
   ·cases h
   ·next hl =>
    cases hr:PyFlat.rows k (r.drop n) with
    | none =>
     rw [hr] at h;cases h
    | some y =>
     obtain⟨xs,t'⟩:=y;rw [hr] at h;simp only [Option.some.injEq,Prod.mk.injEq] at h;obtain⟨rfl,rfl⟩:=h;obtain⟨h1,h2⟩:=rows_enc hr;have er:r=r.take n++r.drop n:=(List.take_append_drop n r).symm
     have ln:(r.take n).length=n:=by rw [List.length_take];omega
     rw [h1] at er;generalize r.take n=hd at er ln ha ⊢;subst er;clear h1 hr hl;unfold PyVbsoac.shape at hs;split at hs
     ·next e =>
      subst e;simp only [Option.some.injEq,Prod.mk.injEq] at hs;obtain⟨rfl,rfl⟩:=hs;obtain rfl:=len_0 ln
      obtain rfl:=len_0 h2
      exact⟨.clear,rfl,trivial,rfl⟩
     split at hs
     ·next e =>
      subst e;simp only [Option.some.injEq,Prod.mk.injEq] at hs;obtain⟨rfl,rfl⟩:=hs;obtain⟨a,rfl⟩:=len_1 ln;obtain⟨u,v,x,rfl⟩:=len_3 h2;have hb:(VbsoacNeutral.whole64 a&&u.all (fun(z:Int)=>VbsoacNeutral.whole64 z)&&decide (u.length<=50)&&v.all (fun(z:Int)=>VbsoacNeutral.whole64 z)&&decide (v.length<=50)&&x.all (fun(z:Int)=>VbsoacNeutral.whole64 z)&&decide (x.length<=50))=true:=ha
      simp only [Bool.and_eq_true,decide_eq_true_eq] at hb;refine⟨.province a u v x,?_,⟨by omega,by omega,by omega⟩,rfl⟩
      simp only [cD,List.flatMap_cons,List.flatMap_nil,List.append_assoc,List.cons_append,List.nil_append,List.append_nil]
     split at hs
     ·next e =>
      subst e;simp only [Option.some.injEq,Prod.mk.injEq] at hs;obtain⟨rfl,rfl⟩:=hs;obtain⟨a,b,rfl⟩:=len_2 ln;obtain rfl:=len_0 h2
      exact⟨.land a b,rfl,trivial,rfl⟩
     split at hs
     ·next e =>
      subst e;simp only [Option.some.injEq,Prod.mk.injEq] at hs;obtain⟨rfl,rfl⟩:=hs;obtain⟨a,b,c,d,rfl⟩:=len_4 ln;obtain rfl:=len_0 h2
      exact⟨.sea a b c d,rfl,trivial,rfl⟩
     split at hs
     ·next e =>
      subst e;simp only [Option.some.injEq,Prod.mk.injEq] at hs;obtain⟨rfl,rfl⟩:=hs;obtain⟨a,b,c,d,rfl⟩:=len_4 ln;obtain rfl:=len_0 h2
      exact⟨.man a b c d,rfl,trivial,rfl⟩
     split at hs
     ·next e =>
      subst e;simp only [Option.some.injEq,Prod.mk.injEq] at hs;obtain⟨rfl,rfl⟩:=hs;obtain⟨a,rfl⟩:=len_1 ln;obtain rfl:=len_0 h2
      exact⟨.gone a,rfl,trivial,rfl⟩
     split at hs
     ·next e =>
      subst e;simp only [Option.some.injEq,Prod.mk.injEq] at hs;obtain⟨rfl,rfl⟩:=hs;obtain⟨a,rfl⟩:=len_1 ln;obtain⟨u,rfl⟩:=len_1 h2;have hb:(VbsoacNeutral.whole64 a&&u.all (fun(z:Int)=>VbsoacNeutral.whole64 z)&&decide (u.length<=2100))=true:=ha
      simp only [Bool.and_eq_true,decide_eq_true_eq] at hb;refine⟨.read a u,?_,(show u.length<=3000 by omega),rfl⟩
      simp only [cD,List.flatMap_cons,List.flatMap_nil,List.append_assoc,List.cons_append,List.nil_append,List.append_nil]
     split at hs
     ·next e =>
      subst e;simp only [Option.some.injEq,Prod.mk.injEq] at hs;obtain⟨rfl,rfl⟩:=hs;obtain⟨a,rfl⟩:=len_1 ln;obtain rfl:=len_0 h2
      exact⟨.print a,rfl,trivial,rfl⟩
     split at hs
     ·next e =>
      subst e;simp only [Option.some.injEq,Prod.mk.injEq] at hs;obtain⟨rfl,rfl⟩:=hs;obtain⟨a,rfl⟩:=len_1 ln;obtain rfl:=len_0 h2
      exact⟨.order a,rfl,trivial,rfl⟩
     split at hs
     ·next e =>
      subst e;simp only [Option.some.injEq,Prod.mk.injEq] at hs;obtain⟨rfl,rfl⟩:=hs;obtain rfl:=len_0 ln
      obtain⟨u,rfl⟩:=len_1 h2;have hb:(u.all (fun(z:Int)=>VbsoacNeutral.whole64 z)&&decide (u.length<=50))=true:=ha
      simp only [Bool.and_eq_true,decide_eq_true_eq] at hb;refine⟨.find u,?_,(show u.length<=3000 by omega),rfl⟩
      simp only [cD,List.flatMap_cons,List.flatMap_nil,List.append_assoc,List.cons_append,List.nil_append,List.append_nil]
     split at hs
     ·next e =>
      subst e;simp only [Option.some.injEq,Prod.mk.injEq] at hs;obtain⟨rfl,rfl⟩:=hs;obtain rfl:=len_0 ln
      obtain rfl:=len_0 h2
      exact⟨.orders,rfl,trivial,rfl⟩
     ·cases hs
theorem calls_enc:∀ {f:Nat}{l:List Int}{cs:List (List (List Int))},PyFlat.calls PyVbsoac.shape f l=some cs->(∀ c∈cs,VbsoacNeutral.asked1 (PyVbsoac.whole c)=true) ->
  ∃ xs,l=xs.flatMap cD/\(∀ x∈xs,SmallC x)/\xs.length=cs.length/\∀ s,PyFlat.played VbsoacNeutral.step s (cs.map PyVbsoac.whole)=playX s xs
 | f,[],cs,h,ha=>by
  have e:cs=[]:=by
   cases f <;> exact(Option.some.inj h).symm
  subst e;exact⟨[],rfl,(by intro x hx;cases hx),rfl,fun s=>rfl⟩
 | 0,_::_,cs,h,ha=>nomatch h
 | f+1,p::r,cs,h,ha=>by
  simp only [PyFlat.calls] at h;cases e:PyFlat.call PyVbsoac.shape (p::r) with
  | none =>
   rw [e] at h;cases h
  | some y =>
   obtain⟨c,t⟩:=y;rw [e] at h;simp only at h
   cases e2:PyFlat.calls PyVbsoac.shape f t with
   | none =>
    rw [e2] at h;cases h
   | some cs' =>
    rw [e2] at h;simp only [Option.some.injEq] at h;subst h;obtain⟨x,h1,h2,h3⟩:=call_enc e (ha c List.mem_cons_self);obtain⟨xs,g1,g2,g3,g4⟩:=calls_enc e2 fun c' hc=>ha c' (List.mem_cons_of_mem _ hc)
    refine⟨x::xs,?_,?_,?_,?_⟩
    ·rw [h1,List.flatMap_cons,g1]
    ·intro z hz;rcases List.mem_cons.mp hz with rfl | hz
     ·exact h2
     ·exact g2 z hz
    ·rw [List.length_cons,List.length_cons,g3]
    ·intro s
     have e3:VbsoacNeutral.step s (PyVbsoac.whole c)=Vbsoac.step s x:=by
      unfold VbsoacNeutral.step;rw [h3]
     rw [List.map_cons];show(VbsoacNeutral.step s (PyVbsoac.whole c)).2::PyFlat.played VbsoacNeutral.step (VbsoacNeutral.step s (PyVbsoac.whole c)).1 (cs'.map PyVbsoac.whole)=_
     rw [e3,g4];rfl
theorem asked_enc {l:List Int}(h:PyVbsoac.answers_asked l=true):∃ xs,l=xs.flatMap cD/\(∀ x∈xs,SmallC x)/\xs.length<=400/\PyVbsoac.answers l=outOf Vbsoac.start xs:=by
 unfold PyVbsoac.answers_asked at h;unfold PyVbsoac.answers;unfold PyVbsoac.calls at h ⊢;cases e:PyFlat.calls PyVbsoac.shape l.length l with
 | none =>
  rw [e] at h;cases h
 | some cs =>
  rw [e] at h;simp only [Bool.and_eq_true,VbsoacNeutral.asked,decide_eq_true_eq,List.all_eq_true,List.length_map] at h;obtain⟨xs,h1,h2,h3,h4⟩:=calls_enc e fun c hc=>h.2.2 _ (List.mem_map.mpr ⟨c,hc,rfl⟩)
  refine⟨xs,h1,h2,by omega,?_⟩
  simp only
  rw [h4];rfl
theorem TabAt.updFx {t:Table}{l:List V}(h:TabAt K P w ad H tb A t)(hne:A.pv≠ad.fx):TabAt K P w ad (upd H ad.fx (.lst l)) tb A t:=by
 obtain⟨h1,⟨qs,h2,h3⟩,h4,h5,⟨us,h6,h7,h8,h9⟩,h10,⟨fl,h11⟩⟩:=h
 have kk:∀ b o,H b=some o->(∀ l,o≠.lst l)->upd H ad.fx (.lst l) b=some o:=fun b o e z=>by
  rw [uN (bB e h11 (z _))];exact e
 refine⟨kk _ _ h1 (fun _ e=>nomatch e),⟨qs,by rw [uN hne];exact h2,Paired.mapP h3 fun p q z=>?_⟩,kk _ _ h4 (fun _ e=>nomatch e),?_,⟨us,kk _ _ h6 (fun _ e=>nomatch e),h7,h8,fun u hu=>?_⟩,h10,l,uS⟩
 ·obtain⟨dx,n,s,l',ws,g1,g2,g3,g4,g5,g6⟩:=z;exact⟨dx,n,s,l',ws,kk _ _ g1 (fun _ e=>nomatch e),kk _ _ g2 (fun _ e=>nomatch e),kk _ _ g3 (fun _ e=>nomatch e),g4,by rw [uN g4.2];exact g5,g6.mono fun b xs e=>kk _ _ e (fun _ z=>nomatch z)⟩
 ·refine h5.mono ?_ fun b xs e=>kk _ _ e (fun _ z=>nomatch z)
  obtain⟨_,_,xs,e,_⟩:=h5;rw [e];exact kk _ _ e (fun _ z=>nomatch z)
 ·obtain⟨dx,o,g1,g2⟩:=h9 u hu;refine⟨dx,o,kk _ _ g1 (fun _ z=>nomatch z),?_⟩
  rcases g2 with (g2 | ⟨ob,g2⟩) | g2
  ·exact .inl (.inl (kk _ _ g2 (fun _ z=>nomatch z)))
  ·exact .inl (.inr ⟨ob,kk _ _ g2 (fun _ z=>nomatch z)⟩)
  ·exact .inr g2
def sp_any_call:SP:=fun K P w ad vs H Q E=>∃ z,kS K P w {ad with fx:=z} vs H Q E
def sp_answers:SP:=fun K P w ad vs H Q _=>∃ (a:Addr)(ns:List Int)(xs:List Call),vs=[.ref a]/\SqL K H a (ns.map V.int)/\ns=xs.flatMap cD/\(∀ x∈xs,SmallC x)/\xs.length<=400/\∀ D H',H' D=some (.lst ((outOf Vbsoac.start xs).map V.int))->Q (.ref D) H'
def AInv (K:W.Frag)(P:Program)(w:World)(ad:Adr)(H:Hp)(a tb rd an dx:Addr)(ns out:List Int)(m:Nat)(σ:L2.St)(H':Hp):Prop:=∃ (v:Option V)(A:TAd)(t:Table)(i:Nat)(rest:List Call)(done:List Int),m=rest.length/\σ=[some (.ref a),some (.ref tb),some (.ref rd),some (.ref an),v] /\
 TabAt K P w {ad with fx:=an} H' tb A t/\A.pv≠an/\H' rd=some (rdO ad dx a i)/\(∀ b o,H b=some o->keepK o=true->H' b=some o/\b≠A.pv)/\ns.drop i=rest.flatMap cD/\i<=ns.length/\H' an=some (.lst (done.map V.int))/\done++outOf t rest=out/\(∀ x∈rest,SmallC x)/\done.length+rest.length*2001<=400*2001
theorem encOf_ne (x:Call):cD x≠[]:=by cases x <;> exact List.cons_ne_nil _ _
theorem sql_kept {H H':Hp}{a:Addr}{xs:List V}(k:∀ b o,H b=some o->keepK o=true->H' b=some o)(h:SqL K H a xs):SqL K H' a xs:=by
 rcases h with (e | ⟨o,e⟩) | e
 ·exact .inl (.inl (k _ _ e rfl))
 ·exact .inl (.inr ⟨o,k _ _ e rfl⟩)
 ·exact .inr e
theorem ok_answers (F:Fun K "answers" "answers" st_answers f fd)(T:Txt K mg ad)(D_Reader_has_more:iB P w K mg base ad)(D_answer_call:DefOk P w K mg base "answer_call" 13 ["table","reader"] (sp_any_call K P w ad))(D_Reader:O_Reader P w K mg base ad)(D_Table:O_Table P w K mg base ad):FnOk P w K mg base CX0 14 f fd ["calls"] (sp_answers K P w ad):=by
 refine F.ok sc_answers (fun vs H Q E h=>?_) (fun _ A _ s H vs Q E hr h=>?_)
 ·obtain⟨a,ns,xs,rfl,_⟩:=h;rfl
 ·obtain⟨a,ns,xs,rfl,hS,hns,hsm,hl,k⟩:=h
  refine⟨_,(sC (aD (i:=1) sc_answers.nd rfl (Or.inl rfl) (pe_makeD0 D_Table hr))
   (sC (aD (i:=2) sc_answers.nd rfl (Or.inl rfl) (dO D_Reader hr (pC (pv 0) pN)))
   (sC (aD (i:=3) sc_answers.nd rfl (Or.inl rfl) (aT pN))
   (sC (ps_while PassesOwn.never (aX (aU (pv 2) T.cl_Reader D_Reader_has_more hr)) (sC (aD (i:=4) sc_answers.nd rfl (Or.inl rfl) (eD D_answer_call hr (pC (pv 1) (pC (pv 2) pN))))
   (sC (bZ (jA PySem.F.plainAttrs_list PySem.F.slot_list_append PySem.F.type_list_append dA (pv 3) (pC (aR T.n_len (pC (pv 4) pN)) pN)))
   (sO (bZ (jA PySem.F.plainAttrs_list PySem.F.slot_list_extend PySem.F.type_list_extend mt_extend (pv 3) (pC (pv 4) pN)))))))
   (sO (sR (pv 3))))))),?_⟩
  walk_at "s1";refine fun tb dt ntb ndt hdt=>⟨tb,dt,rfl,uS,fun A0 H1 hT1 nA0 kp0=>⟨rfl,?_⟩⟩
  have s1:Same H H1:=fun b o e=>kp0 b o (by rw [uN (nN e ntb),uN (nN e ndt)];exact e) (nN e ntb)
  have nA:H A0.pv=none:=by
   cases z:H A0.pv with
   | none=>rfl
   | some o =>
    rw [uN (nN z ntb),uN (nN z ndt),z] at nA0;cases nA0
  walk_at "c1";walk_at "s2";refine fun rd dx nrd ndx hdx=>⟨rd,dx,_,rfl,uS,rfl,?_⟩
  rw [cB,e2];clear e2 k2;have s2:Same H1 (upd (upd H1 dx (.own rd)) rd (.ins ad.cReader dx (bU (.ref a) (.int 0)))):=(Same.new ndx).upd nrd
  have hrd:upd (upd H1 dx (.own rd)) rd (.ins ad.cReader dx (bU (.ref a) (.int 0))) rd=some (rdO ad dx a 0):=uS
  generalize upd (upd H1 dx (.own rd)) rd (.ins ad.cReader dx (bU (.ref a) (.int 0)))=H2 at s2 hrd ⊢;walk_at "s3";refine⟨Nat.zero_le _,fun an nan=>?_⟩
  walk_at "c3";have s3:Same H2 (upd H2 an (.lst [])):=Same.new nan
  have han:upd H2 an (.lst []) an=some (.lst []):=uS
  have hT2:=hT1.same s2;obtain⟨qs0,hq0,_⟩:=hT2.provs;have pan:A0.pv≠an:=nN hq0 nan
  have nrd0:H rd=none:=s1.free nrd
  have nan0:H an=none:=s1.free (s2.free nan)
  have hT3:TabAt K P w {ad with fx:=an} (upd H2 an (.lst [])) tb A0 Vbsoac.start:=(hT2.same s3).retag rfl ⟨_,han⟩
  have hrd3:=s3 _ _ hrd;have s13:Same H (upd H2 an (.lst [])):=(s1.trans s2).trans s3
  generalize upd H2 an (.lst [])=H3 at s3 han hT3 hrd3 s13 ⊢;refine bY fun k4 e4=>?_
  refine⟨AInv K P w ad H a tb rd an dx ns (outOf Vbsoac.start xs),⟨xs.length,none,A0,Vbsoac.start,0,xs,[],rfl,rfl,hT3,pan,hrd3,fun b o e z=>⟨s13 _ _ e,nN e nA⟩,hns,Nat.zero_le _,han,rfl,hsm,by rw [List.length_nil,Nat.zero_add];exact Nat.mul_le_mul_right _ hl⟩,?_⟩
  rintro m σ H' ⟨v,A',t,i,rest,done,rfl,rfl,hT,hpv,hr',kp,hd,hi,ha,hout,hsmall,hlen⟩
  have hS':SqL K H' a (ns.map V.int):=sql_kept (fun b o e z=>(kp b o e z).1) hS
  walk_at "rd";refine⟨_,_,hr',f_Reader_no_has_more,rd,dx,a,ns,i,rfl,hr',hS',?_⟩
  refine⟨_,rfl,?_⟩
  by_cases hlt:i < ns.length
  ·rw [if_pos (decide_eq_true hlt)];cases rest with
   | nil =>
    have:=congrArg List.length hd
    rw [List.length_drop,List.flatMap_nil,List.length_nil] at this;omega
   | cons x r =>
    rw [List.flatMap_cons] at hd;refine⟨fun σ' H'=>∃ m',m' < (x::r).length/\AInv K P w ad H a tb rd an dx ns (outOf Vbsoac.start xs) m' σ' H',fun σ' H' z=>z,an,x,hsmall x List.mem_cons_self,tb,rd,dx,a,A',t,ns,r.flatMap cD,i,rfl,hT,hr',hS',hd,hi,?_⟩
    intro A2 H2 D hT2 hpv2 hrd2 kp2 hD hDl;have nar:an≠rd:=bB ha hr' (fun e=>nomatch e)
    obtain⟨ha2,hanD⟩:=kp2 an _ ha (Ne.symm hpv) nar rfl;have sl:=step_len hT.wf x;rw [List.length_cons,Nat.succ_mul] at hlen
    have pv2:A2.pv≠an:=by
     rcases hpv2 with e | e
     ·rw [e];exact hpv
     ·intro z;rw [z,ha] at e;cases e
    obtain⟨d1,d2,d3⟩:=drop_nums hd hi;have szl:sizeLine=16777216:=by decide
    refine⟨tyl ha2,D,rfl,_,.inl (SqL.of hDl),_,ha2,by rw [List.length_map];omega,tyl uS,D,rfl,_,uS,_,by rw [uN (Ne.symm hanD)];exact hDl,by rw [List.length_append,List.length_map,List.length_map,List.length_cons,List.length_nil];omega,?_⟩
    rw [cB];refine⟨r.length,Nat.lt_succ_self _,some (.ref D),A2,(Vbsoac.step t x).1,i+(cD x).length,r,done++(((Vbsoac.step t x).2.length:Nat):Int)::(Vbsoac.step t x).2,rfl,rfl,hT2.updFx pv2,pv2,by rw [uN (Ne.symm nar)];exact hrd2,fun b o e z=>?_,d3,d2,?_,?_,fun y hy=>hsmall y (List.mem_cons_of_mem _ hy),?_⟩
    ·obtain⟨g1,g2⟩:=kp b o e z;refine⟨by rw [uN (nN e nan0)];exact(kp2 b o g1 g2 (nN e nrd0) z).1,?_⟩
     rcases hpv2 with e' | e'
     ·rw [e'];exact g2
     ·exact nN g1 e'
    ·rw [uS];simp only [List.map_append,List.map_cons,List.length_map,List.append_assoc,List.cons_append,List.nil_append]
    ·rw [<-hout,outOf_cons,List.append_assoc,List.cons_append]
    ·rw [List.length_append,List.length_cons];omega
  ·rw [if_neg (by rw [decide_eq_true_eq];exact hlt)]
   have er:rest=[]:=by
    cases rest with
    | nil=>rfl
    | cons x r =>
     rw [List.drop_eq_nil_of_le (by omega),List.flatMap_cons] at hd;exact absurd (List.append_eq_nil_iff.mp hd.symm).1 (encOf_ne x)
   subst er;rw [e4]
   have eo:done=outOf Vbsoac.start xs:=by
    rw [<-hout];show done=done++[]
    rw [List.append_nil]
   rw [eo] at ha;walk_at "rd";exact k an H' ha
theorem bl1 {us:List Value}{M:List Value->Prop}(k:∀ a,M [a])(h:us.length=1):M us:=match us,h with | [a],_=>k a
local macro_rules | `(tactic| walk_at "b1")=>`(tactic| exact fun _ _ _ _ _ _ us hl=>bl1 (M:=fun us=>bindArgs _ ⟨us,[]⟩=pure (List.zip _ us)) (fun _=>rfl) hl)
theorem bl2 {us:List Value}{M:List Value->Prop}(k:∀ a b,M [a,b])(h:us.length=2):M us:=match us,h with | [a,b],_=>k a b
local macro_rules | `(tactic| walk_at "b2")=>`(tactic| exact fun _ _ _ _ _ _ us hl=>bl2 (M:=fun us=>bindArgs _ ⟨us,[]⟩=pure (List.zip _ us)) (fun _ _=>rfl) hl)
theorem bl3 {us:List Value}{M:List Value->Prop}(k:∀ a b c,M [a,b,c])(h:us.length=3):M us:=match us,h with | [a,b,c],_=>k a b c
local macro_rules | `(tactic| walk_at "b3")=>`(tactic| exact fun _ _ _ _ _ _ us hl=>bl3 (M:=fun us=>bindArgs _ ⟨us,[]⟩=pure (List.zip _ us)) (fun _ _ _=>rfl) hl)
theorem bl4 {us:List Value}{M:List Value->Prop}(k:∀ a b c d,M [a,b,c,d])(h:us.length=4):M us:=match us,h with | [a,b,c,d],_=>k a b c d
local macro_rules | `(tactic| walk_at "b4")=>`(tactic| exact fun _ _ _ _ _ _ us hl=>bl4 (M:=fun us=>bindArgs _ ⟨us,[]⟩=pure (List.zip _ us)) (fun _ _ _ _=>rfl) hl)
theorem bl5 {us:List Value}{M:List Value->Prop}(k:∀ a b c d e,M [a,b,c,d,e])(h:us.length=5):M us:=match us,h with | [a,b,c,d,e],_=>k a b c d e
local macro_rules | `(tactic| walk_at "b5")=>`(tactic| exact fun _ _ _ _ _ _ us hl=>bl5 (M:=fun us=>bindArgs _ ⟨us,[]⟩=pure (List.zip _ us)) (fun _ _ _ _ _=>rfl) hl)
theorem bl6 {us:List Value}{M:List Value->Prop}(k:∀ a b c d e f,M [a,b,c,d,e,f])(h:us.length=6):M us:=match us,h with | [a,b,c,d,e,f],_=>k a b c d e f
local macro_rules | `(tactic| walk_at "b6")=>`(tactic| exact fun _ _ _ _ _ _ us hl=>bl6 (M:=fun us=>bindArgs _ ⟨us,[]⟩=pure (List.zip _ us)) (fun _ _ _ _ _ _=>rfl) hl)
theorem bl7 {us:List Value}{M:List Value->Prop}(k:∀ a b c d e f g,M [a,b,c,d,e,f,g])(h:us.length=7):M us:=match us,h with | [a,b,c,d,e,f,g],_=>k a b c d e f g
local macro_rules | `(tactic| walk_at "b7")=>`(tactic| exact fun _ _ _ _ _ _ us hl=>bl7 (M:=fun us=>bindArgs _ ⟨us,[]⟩=pure (List.zip _ us)) (fun _ _ _ _ _ _ _=>rfl) hl)
theorem bl8 {us:List Value}{M:List Value->Prop}(k:∀ a b c d e f g i,M [a,b,c,d,e,f,g,i])(h:us.length=8):M us:=match us,h with | [a,b,c,d,e,f,g,i],_=>k a b c d e f g i
local macro_rules | `(tactic| walk_at "b8")=>`(tactic| exact fun _ _ _ _ _ _ us hl=>bl8 (M:=fun us=>bindArgs _ ⟨us,[]⟩=pure (List.zip _ us)) (fun _ _ _ _ _ _ _ _=>rfl) hl)
theorem DefAt.ex {x:Str}{st:Stmt}(d:DefAt K x st):∃ f fd,W.nsIn K mainGlobals x=some (some (.ref f))/\Fun K x x st f fd:=by
 obtain⟨f,oc,od,an,osl,kV,doc,pm,cdv,ct,a,l,c,k⟩:=d.raw;exact⟨f,_,a,fun_mk l c k⟩
theorem MethAt.ex {C:Addr}{m qual:Str}{st:Stmt}(d:MethAt K C m qual st):∃ f fd,Meth K C m f/\Fun K m qual st f fd:=by
 obtain⟨f,oc,od,an,osl,kV,doc,pm,cdv,ct,⟨a,i⟩,l,c,k⟩:=d.raw;exact⟨f,_,⟨a,i,k⟩,fun_mk l c k⟩
theorem ClsAt.cl {x:Str}{C:Addr}(d:ClsAt K x C):Cls K C:=⟨d.pg,d.hd,d.po,d.sa⟩
theorem IntsAt.vals:∀ {ns:List Int}{us:List Value},IntsAt ns us->Vals (ns.map V.int) us
 | [],[],_=>.nil
 | _::_,_::_,h=>.cons h.1 (IntsAt.vals h.2)
theorem TupAt.sq {a:Addr}{ns:List Int}(d:TupAt K a ns):∀ H,SqT K H a (ns.map V.int):=by
 obtain⟨od,its,n,osl,l,h1,h2⟩:=d.raw;exact fun H=>.inr ⟨_,its,n,l,rfl,rfl,Nat.le_trans h1 (by decide),h2.vals⟩
section
variable {P:Program}{w:World}{K:W.Frag}{mg:Str->Option Value}{base h:Heap}
theorem aA {x:Str}{st:Stmt}{k:Nat}{ps:List Str}{sp:Sp}(X:K.In h)(G:h.Ns mainGlobals mg)(d:DefAt K x st)
  (b:∀ (kV doc pm:Value)(an:Option Addr)(cdv ct:Value)(us:List Value),us.length=ps.length->bindArgs (W.fnOf x x (hX st) (fT st) (dS st) .none kV doc pm an cdv ct) ⟨us,[]⟩=pure (ps.zip us))
  (ok:∀ {f:Addr}{fd:FuncData},Fun K x x st f fd->FnOk P w K mg base CX0 k f fd ps sp):DefOk P w K mg base x k ps sp:=by
 obtain⟨f,fd,a,F⟩:=d.ex;exact⟨f,fd,W.mg_of X G a,F.kp,F.binds b,ok F⟩
theorem bC {C:Addr}{m qual:Str}{st:Stmt}{k:Nat}{ps:List Str}{sp:Sp}(d:MethAt K C m qual st)
  (b:∀ (kV doc pm:Value)(an:Option Addr)(cdv ct:Value)(us:List Value),us.length=ps.length->bindArgs (W.fnOf m qual (hX st) (fT st) (dS st) .none kV doc pm an cdv ct) ⟨us,[]⟩=pure (ps.zip us))
  (ok:∀ {f:Addr}{fd:FuncData},Fun K m qual st f fd->FnOk P w K mg base CX0 k f fd ps sp):MethOk P w K mg base C m k ps sp:=by
 obtain⟨f,fd,a,F⟩:=d.ex;exact⟨f,fd,a,F.binds b,ok F⟩
theorem kE {C:Addr}{x qual:Str}{st:Stmt}{k:Nat}{ps:List Str}{sp:Sp}(X:K.In h)(G:h.Ns mainGlobals mg)(c:ClsAt K x C)(d:MethAt K C "__init__" qual st)
  (b:∀ (kV doc pm:Value)(an:Option Addr)(cdv ct:Value)(us:List Value),us.length=ps.length->bindArgs (W.fnOf "__init__" qual (hX st) (fT st) (dS st) .none kV doc pm an cdv ct) ⟨us,[]⟩=pure (ps.zip us))
  (ok:∀ {f:Addr}{fd:FuncData},Fun K "__init__" qual st f fd->FnOk P w K mg base CX0 k f fd ps sp):MakeOk P w K mg base x C k ps sp:=by
 obtain⟨f,fd,a,F⟩:=d.ex;exact⟨f,fd,W.mg_of X G c.at_,⟨c.mk_,a.at_,a.fn,c.kp⟩,F.binds b,ok F⟩
theorem gc_of {x:Str}{v:V}{u:Value}(X:K.In h)(G:h.Ns mainGlobals mg)(a:W.nsIn K mainGlobals x=some (some u))(r:RelV v u):GC mg x v:=⟨u,W.mg_of X G a,r⟩
theorem ConAt.gc {x:Str}{n:Int}(X:K.In h)(G:h.Ns mainGlobals mg)(c:ConAt K x n):GC mg x (.int n):=by
 obtain⟨u,a,t,r⟩:=c.raw;exact gc_of X G a ⟨t,r⟩
end
section
variable {P:Program}{w:World}{K:W.Frag}{mg:Str->Option Value}{base h:Heap}{cProvince cUnit cTable cPlace cReader cReading a_HOLD:Addr}
theorem Top.txt (X:K.In h)(G:h.Ns mainGlobals mg)(t:Top K cProvince cUnit cTable cPlace cReader cReading a_HOLD)(z:Addr):Txt K mg ⟨cProvince,cUnit,cTable,cPlace,cReader,cReading,a_HOLD,z⟩ where
 cl_Province:=t.c_Province.cl
 nf_Province_kind:=t.nf_Province_kind
 nf_Province_name:=t.nf_Province_name
 nf_Province_short_name:=t.nf_Province_short_name
 nf_Province_shores:=t.nf_Province_shores
 cl_Unit:=t.c_Unit.cl
 nf_Unit_power:=t.nf_Unit_power
 nf_Unit_fleet:=t.nf_Unit_fleet
 nf_Unit_shore:=t.nf_Unit_shore
 nf_Unit_order:=t.nf_Unit_order
 cl_Table:=t.c_Table.cl
 nf_Table_provinces:=t.nf_Table_provinces
 nf_Table_land_links:=t.nf_Table_land_links
 nf_Table_sea_links:=t.nf_Table_sea_links
 nf_Table_units:=t.nf_Table_units
 cl_Place:=t.c_Place.cl
 nf_Place_error:=t.nf_Place_error
 nf_Place_province:=t.nf_Place_province
 nf_Place_shore:=t.nf_Place_shore
 cl_Reader:=t.c_Reader.cl
 nf_Reader_numbers:=t.nf_Reader_numbers
 nf_Reader_place:=t.nf_Reader_place
 cl_Reading:=t.c_Reading.cl
 nf_Reading_error:=t.nf_Reading_error
 nf_Reading_province:=t.nf_Reading_province
 nf_Reading_order:=t.nf_Reading_order
 g_HOLD:=gc_of X G t.g_HOLD (by constructor)
 t_HOLD:=t.t_HOLD.sq
 g_LAST_POWER:=t.g_LAST_POWER.gc X G
 g_BLANK:=t.g_BLANK.gc X G
 g_LAST_PRINTABLE:=t.g_LAST_PRINTABLE.gc X G
 g_LINE_END:=t.g_LINE_END.gc X G
 g_GREAT_A:=t.g_GREAT_A.gc X G
 g_GREAT_Z:=t.g_GREAT_Z.gc X G
 g_SMALL_A:=t.g_SMALL_A.gc X G
 g_SMALL_Z:=t.g_SMALL_Z.gc X G
 g_LONGEST_NAME:=t.g_LONGEST_NAME.gc X G
 g_SHORT_NAME:=t.g_SHORT_NAME.gc X G
 g_LONGEST_SHORE_NAME:=t.g_LONGEST_SHORE_NAME.gc X G
 g_FEWEST_SHORES:=t.g_FEWEST_SHORES.gc X G
 g_MOST_SHORES:=t.g_MOST_SHORES.gc X G
 g_COAST:=t.g_COAST.gc X G
 g_MOST_PROVINCES:=t.g_MOST_PROVINCES.gc X G
 g_FULL:=t.g_FULL.gc X G
 g_TAKEN:=t.g_TAKEN.gc X G
 g_UNFIT:=t.g_UNFIT.gc X G
 g_LONGEST_TEXT_building:=t.g_LONGEST_TEXT_building.gc X G
 g_OUT_OF_RANGE:=t.g_OUT_OF_RANGE.gc X G
 g_SEA:=t.g_SEA.gc X G
 g_LAND:=t.g_LAND.gc X G
 g_MOST_LAND_LINKS:=t.g_MOST_LAND_LINKS.gc X G
 g_MOST_SEA_LINKS:=t.g_MOST_SEA_LINKS.gc X G
 g_FLEET:=t.g_FLEET.gc X G
 g_MOST_UNITS:=t.g_MOST_UNITS.gc X G
 g_ARMY:=t.g_ARMY.gc X G
 g_MISSING:=t.g_MISSING.gc X G
 g_NO_SHORE:=t.g_NO_SHORE.gc X G
 g_SEVERAL_PROVINCES:=t.g_SEVERAL_PROVINCES.gc X G
 g_NO_PROVINCE:=t.g_NO_PROVINCE.gc X G
 g_SLASH:=t.g_SLASH.gc X G
 g_MALFORMED:=t.g_MALFORMED.gc X G
 g_SUPPORT_OF_MOVE:=t.g_SUPPORT_OF_MOVE.gc X G
 g_SUPPORT:=t.g_SUPPORT.gc X G
 g_MOVE:=t.g_MOVE.gc X G
 g_HOLDING:=t.g_HOLDING.gc X G
 g_OTHER_UNIT:=t.g_OTHER_UNIT.gc X G
 g_NO_UNIT:=t.g_NO_UNIT.gc X G
 g_SEVERAL_SHORES:=t.g_SEVERAL_SHORES.gc X G
 g_ARMY_TO_SHORE:=t.g_ARMY_TO_SHORE.gc X G
 g_CARRYING:=t.g_CARRYING.gc X G
 g_REMARK:=t.g_REMARK.gc X G
 g_TOLD_TWICE:=t.g_TOLD_TWICE.gc X G
 g_MOST_WRONG_LINES:=t.g_MOST_WRONG_LINES.gc X G
 g_LONGEST_TEXT_reading:=t.g_LONGEST_TEXT_reading.gc X G
 g_COUNTS:=t.g_COUNTS.gc X G
 g_NO_WAY:=t.g_NO_WAY.gc X G
 g_TO_OWN_PROVINCE:=t.g_TO_OWN_PROVINCE.gc X G
 g_NO_UNIT_THERE:=t.g_NO_UNIT_THERE.gc X G
 g_OUT_OF_REACH:=t.g_OUT_OF_REACH.gc X G
 g_OWN_OR_SAME_PROVINCE:=t.g_OWN_OR_SAME_PROVINCE.gc X G
 g_FLEET_CARRIED:=t.g_FLEET_CARRIED.gc X G
 g_CARRIED_NOWHERE:=t.g_CARRIED_NOWHERE.gc X G
 g_NO_FLEET_AT_SEA:=t.g_NO_FLEET_AT_SEA.gc X G
 g_LONGEST_WORD:=t.g_LONGEST_WORD.gc X G
 g_ORDERS:=t.g_ORDERS.gc X G
 g_FIND:=t.g_FIND.gc X G
 g_ORDER:=t.g_ORDER.gc X G
 g_PRINTED:=t.g_PRINTED.gc X G
 g_READ:=t.g_READ.gc X G
 g_GONE:=t.g_GONE.gc X G
 g_MAN:=t.g_MAN.gc X G
 g_SEA_LINK:=t.g_SEA_LINK.gc X G
 g_LAND_LINK:=t.g_LAND_LINK.gc X G
 g_PROVINCE:=t.g_PROVINCE.gc X G
 g_CLEAR:=t.g_CLEAR.gc X G
 n_max:=W.mg_none_of X G t.n_max
 n_len:=W.mg_none_of X G t.n_len
 n_any:=W.mg_none_of X G t.n_any
 n_enumerate:=W.mg_none_of X G t.n_enumerate
 n_range:=W.mg_none_of X G t.n_range
 n_sorted:=W.mg_none_of X G t.n_sorted
 n_min:=W.mg_none_of X G t.n_min
 n_all:=W.mg_none_of X G t.n_all
 n_tuple:=W.mg_none_of X G t.n_tuple
 n_ord:=W.mg_none_of X G t.n_ord
 n_set:=W.mg_none_of X G t.n_set
 n_list:=W.mg_none_of X G t.n_list
theorem Top.all (X:K.In h)(G:h.Ns mainGlobals mg)(t:Top K cProvince cUnit cTable cPlace cReader cReading a_HOLD)(z:Addr):let ad:Adr:=⟨cProvince,cUnit,cTable,cPlace,cReader,cReading,a_HOLD,z⟩;(iB P w K mg base ad)/\(∀ {f:Addr}{fd:FuncData},Fun K "answer_call" "answer_call" gQ f fd->FnOk P w K mg base CX0 13 f fd ["table","reader"] (kS K P w ad))/\(O_Reader P w K mg base ad)/\(O_Table P w K mg base ad):=by
 intro ad;have T:Txt K mg ad:=t.txt X G z
 have D_Reader_has_more:iB P w K mg base ad:=bC t.m_Reader_has_more (by walk_at "b1") (fun F=>ok_Reader_has_more F T )
 have D_Table_provinces_with_units:bA P w K mg base ad:=bC t.m_Table_provinces_with_units (by walk_at "b1") (fun F=>jB F T )
 have D_Table_has_kind:cE P w K mg base ad:=bC t.m_Table_has_kind (by walk_at "b3") (fun F=>ok_Table_has_kind F T )
 have D_why_of_carrying:O_why_of_carrying P w K mg base ad:=aA X G t.d_why_of_carrying (by walk_at "b4") (fun F=>ok_why_of_carrying F T D_Table_has_kind)
 have D_link_between:eU P w K mg base ad:=aA X G t.d_link_between (by walk_at "b2") (fun F=>ok_link_between F T )
 have D_Table_has_land_link:iJ P w K mg base ad:=bC t.m_Table_has_land_link (by walk_at "b3") (fun F=>ok_Table_has_land_link F T D_link_between)
 have D_Province_count_shores:dF P w K mg base ad:=bC t.m_Province_count_shores (by walk_at "b1") (fun F=>ok_Province_count_shores F T )
 have D_Table_has_sea_link:eV P w K mg base ad:=bC t.m_Table_has_sea_link (by walk_at "b3") (fun F=>ok_Table_has_sea_link F T D_link_between)
 have D_Table_linked_shores:dY P w K mg base ad:=bC t.m_Table_linked_shores (by walk_at "b3") (fun F=>ok_Table_linked_shores F T D_Province_count_shores D_Table_has_sea_link)
 have D_reaches:O_reaches P w K mg base ad:=aA X G t.d_reaches (by walk_at "b3") (fun F=>ok_reaches F T D_Table_has_land_link D_Table_linked_shores)
 have D_why_of_help:O_why_of_help P w K mg base ad:=aA X G t.d_why_of_help (by walk_at "b4") (fun F=>ok_why_of_help F T D_reaches)
 have D_why_of_support_of_move:fN P w K mg base ad:=aA X G t.d_why_of_support_of_move (by walk_at "b4") (fun F=>ok_why_of_support_of_move F T D_why_of_help)
 have D_why_of_support:O_why_of_support P w K mg base ad:=aA X G t.d_why_of_support (by walk_at "b3") (fun F=>ok_why_of_support F T D_why_of_help)
 have D_army_can_go:O_army_can_go P w K mg base ad:=aA X G t.d_army_can_go (by walk_at "b4") (fun F=>ok_army_can_go F T D_Table_has_kind D_reaches)
 have D_why_of_move:O_why_of_move P w K mg base ad:=aA X G t.d_why_of_move (by walk_at "b5") (fun F=>ok_why_of_move F T D_Table_has_sea_link D_army_can_go)
 have D_why_of_order:O_why_of_order P w K mg base ad:=aA X G t.d_why_of_order (by walk_at "b2") (fun F=>ok_why_of_order F T D_why_of_carrying D_why_of_support_of_move D_why_of_support D_why_of_move)
 have D_order_and_why:jQ P w K mg base ad:=aA X G t.d_order_and_why (by walk_at "b2") (fun F=>ok_order_and_why F T D_why_of_order)
 have D_tell_orders:O_tell_orders P w K mg base ad:=aA X G t.d_tell_orders (by walk_at "b1") (fun F=>ok_tell_orders F T D_Table_provinces_with_units D_order_and_why)
 have D_Province_has_beginning:fO P w K mg base ad:=bC t.m_Province_has_beginning (by walk_at "b2") (fun F=>ok_Province_has_beginning F T )
 have D_Province_is_called:eW P w K mg base ad:=bC t.m_Province_is_called (by walk_at "b2") (fun F=>ok_Province_is_called F T )
 have D_Table_provinces_meant:dE P w K mg base ad:=bC t.m_Table_provinces_meant (by walk_at "b2") (fun F=>ok_Table_provinces_meant F T D_Province_has_beginning D_Province_is_called)
 have D_is_text:O_is_text P w K mg base ad:=aA X G t.d_is_text (by walk_at "b2") (fun F=>ok_is_text F T )
 have D_find_provinces:O_find_provinces P w K mg base ad:=aA X G t.d_find_provinces (by walk_at "b2") (fun F=>ok_find_provinces F T D_Table_provinces_meant D_is_text)
 have D_Reader_take_numbers:bM P w K mg base ad:=bC t.m_Reader_take_numbers (by walk_at "b2") (fun F=>ok_Reader_take_numbers F T )
 have D_Reader_take_number:bW P w K mg base ad:=bC t.m_Reader_take_number (by walk_at "b1") (fun F=>ok_Reader_take_number F T )
 have D_Reader_take_row:eK P w K mg base ad:=bC t.m_Reader_take_row (by walk_at "b1") (fun F=>ok_Reader_take_row F T D_Reader_take_numbers D_Reader_take_number)
 have D_Table_has_province:bV P w K mg base ad:=bC t.m_Table_has_province (by walk_at "b2") (fun F=>ok_Table_has_province F T )
 have D_tell_order:O_tell_order P w K mg base ad:=aA X G t.d_tell_order (by walk_at "b2") (fun F=>ok_tell_order F T D_order_and_why D_Table_has_province)
 have D_line_of:O_line_of P w K mg base ad:=aA X G t.d_line_of (by walk_at "b1") (fun F=>ok_line_of F T )
 have D_place_word:O_place_word P w K mg base ad:=aA X G t.d_place_word (by walk_at "b4") (fun F=>ok_place_word F T )
 have D_spelled:gM P w K mg base ad:=aA X G t.d_spelled (by walk_at "b1") (fun F=>ok_spelled F T )
 have D_move_words:O_move_words P w K mg base ad:=aA X G t.d_move_words (by walk_at "b3") (fun F=>ok_move_words F T D_spelled D_place_word)
 have D_order_words:O_order_words P w K mg base ad:=aA X G t.d_order_words (by walk_at "b2") (fun F=>ok_order_words F T D_spelled D_move_words)
 have D_unit_line:O_unit_line P w K mg base ad:=aA X G t.d_unit_line (by walk_at "b2") (fun F=>ok_unit_line F T D_line_of D_place_word D_order_words D_spelled)
 have D_is_power:O_is_power P w K mg base ad:=aA X G t.d_is_power (by walk_at "b1") (fun F=>ok_is_power F T )
 have D_print_orders:O_print_orders P w K mg base ad:=aA X G t.d_print_orders (by walk_at "b2") (fun F=>ok_print_orders F T D_Table_provinces_with_units D_unit_line D_is_power)
 have D_give_orders:O_give_orders P w K mg base ad:=aA X G t.d_give_orders (by walk_at "b3") (fun F=>ok_give_orders F T D_Table_provinces_with_units)
 have D_tell_wrong_lines:O_tell_wrong_lines P w K mg base ad:=aA X G t.d_tell_wrong_lines (by walk_at "b1") (fun F=>ok_tell_wrong_lines F T )
 have D_parts_of:O_parts_of P w K mg base ad:=aA X G t.d_parts_of (by walk_at "b2") (fun F=>ok_parts_of F T )
 have D_lines_of:O_lines_of P w K mg base ad:=aA X G t.d_lines_of (by walk_at "b1") (fun F=>ok_lines_of F T D_parts_of)
 have D_Reading:O_Reading P w K mg base ad:=kE X G t.c_Reading t.m_Reading___init__ (by walk_at "b4") (fun F=>ok_Reading___init__ F T )
 have D_wrong:O_wrong P w K mg base ad:=aA X G t.d_wrong (by walk_at "b1") (fun F=>ok_wrong F T D_Reading)
 have D_Place:O_Place P w K mg base ad:=kE X G t.c_Place t.m_Place___init__ (by walk_at "b4") (fun F=>ok_Place___init__ F T )
 have D_no_place:O_no_place P w K mg base ad:=aA X G t.d_no_place (by walk_at "b1") (fun F=>ok_no_place F T D_Place)
 have D_read_shore:O_read_shore P w K mg base ad:=aA X G t.d_read_shore (by walk_at "b3") (fun F=>ok_read_shore F T D_Place D_no_place)
 have D_read_place:O_read_place P w K mg base ad:=aA X G t.d_read_place (by walk_at "b2") (fun F=>ok_read_place F T D_Place D_read_shore D_no_place D_Table_provinces_meant)
 have D_read_goal:O_read_goal P w K mg base ad:=aA X G t.d_read_goal (by walk_at "b2") (fun F=>ok_read_goal F T D_read_place D_spelled D_no_place)
 have D_read_first_place:dN P w K mg base ad:=aA X G t.d_read_first_place (by walk_at "b2") (fun F=>ok_read_first_place F T D_read_place D_no_place)
 have D_unit_word_of:O_unit_word_of P w K mg base ad:=aA X G t.d_unit_word_of (by walk_at "b1") (fun F=>ok_unit_word_of F T D_spelled)
 have D_behind_unit_word:gF P w K mg base ad:=aA X G t.d_behind_unit_word (by walk_at "b1") (fun F=>ok_behind_unit_word F T D_unit_word_of)
 have D_read_help:O_read_help P w K mg base ad:=aA X G t.d_read_help (by walk_at "b5") (fun F=>ok_read_help F T D_Reading D_wrong D_read_goal D_read_first_place D_behind_unit_word)
 have D_shores_meant:O_shores_meant P w K mg base ad:=aA X G t.d_shores_meant (by walk_at "b3") (fun F=>ok_shores_meant F T D_Table_linked_shores)
 have D_read_move:O_read_move P w K mg base ad:=aA X G t.d_read_move (by walk_at "b3") (fun F=>ok_read_move F T D_Reading D_wrong D_shores_meant D_spelled D_read_first_place)
 have D_read_hold:O_read_hold P w K mg base ad:=aA X G t.d_read_hold (by walk_at "b2") (fun F=>ok_read_hold F T D_Reading D_wrong)
 have D_read_order:O_read_order P w K mg base ad:=aA X G t.d_read_order (by walk_at "b3") (fun F=>ok_read_order F T D_wrong D_spelled D_read_help D_read_move D_read_hold)
 have D_error_of_unit:O_error_of_unit P w K mg base ad:=aA X G t.d_error_of_unit (by walk_at "b4") (fun F=>ok_error_of_unit F T )
 have D_read_line:O_read_line P w K mg base ad:=aA X G t.d_read_line (by walk_at "b3") (fun F=>ok_read_line F T D_read_order D_wrong D_error_of_unit D_unit_word_of D_read_first_place D_behind_unit_word)
 have D_says_nothing:O_says_nothing P w K mg base ad:=aA X G t.d_says_nothing (by walk_at "b1") (fun F=>ok_says_nothing F T )
 have D_words_of:O_words_of P w K mg base ad:=aA X G t.d_words_of (by walk_at "b1") (fun F=>ok_words_of F T D_parts_of)
 have D_is_printable:O_is_printable P w K mg base ad:=aA X G t.d_is_printable (by walk_at "b1") (fun F=>ok_is_printable F T )
 have D_take_line:O_take_line P w K mg base ad:=aA X G t.d_take_line (by walk_at "b4") (fun F=>ok_take_line F T D_read_line D_says_nothing D_words_of D_is_printable)
 have D_read_text:O_read_text P w K mg base ad:=aA X G t.d_read_text (by walk_at "b3") (fun F=>ok_read_text F T D_give_orders D_tell_wrong_lines D_lines_of D_take_line D_is_text D_is_power)
 have D_answer_read:O_answer_read P w K mg base ad:=aA X G t.d_answer_read (by walk_at "b2") (fun F=>ok_answer_read F T D_read_text D_Reader_take_row D_Reader_take_number)
 have D_remove_unit:O_remove_unit P w K mg base ad:=aA X G t.d_remove_unit (by walk_at "b2") (fun F=>ok_remove_unit F T D_Table_has_province)
 have D_Unit:O_Unit P w K mg base ad:=kE X G t.c_Unit t.m_Unit___init__ (by walk_at "b4") (fun F=>ok_Unit___init__ F T )
 have D_can_stand:O_can_stand P w K mg base ad:=aA X G t.d_can_stand (by walk_at "b4") (fun F=>ok_can_stand F T D_Table_has_kind)
 have D_Table_has_shore:iA P w K mg base ad:=bC t.m_Table_has_shore (by walk_at "b3") (fun F=>ok_Table_has_shore F T D_Province_count_shores D_Table_has_province)
 have D_add_unit:O_add_unit P w K mg base ad:=aA X G t.d_add_unit (by walk_at "b5") (fun F=>ok_add_unit F T D_Unit D_can_stand D_Table_has_shore D_is_power)
 have D_answer_man:O_answer_man P w K mg base ad:=aA X G t.d_answer_man (by walk_at "b2") (fun F=>ok_answer_man F T D_add_unit D_Reader_take_numbers)
 have D_add_sea_link:O_add_sea_link P w K mg base ad:=aA X G t.d_add_sea_link (by walk_at "b5") (fun F=>ok_add_sea_link F T D_link_between D_Table_has_kind D_Table_has_shore)
 have D_answer_sea:O_answer_sea P w K mg base ad:=aA X G t.d_answer_sea (by walk_at "b2") (fun F=>ok_answer_sea F T D_add_sea_link D_Reader_take_numbers)
 have D_add_land_link:O_add_land_link P w K mg base ad:=aA X G t.d_add_land_link (by walk_at "b3") (fun F=>ok_add_land_link F T D_link_between D_Table_has_kind D_Table_has_province)
 have D_answer_land:O_answer_land P w K mg base ad:=aA X G t.d_answer_land (by walk_at "b2") (fun F=>ok_answer_land F T D_add_land_link D_Reader_take_numbers)
 have D_Province:O_Province P w K mg base ad:=kE X G t.c_Province t.m_Province___init__ (by walk_at "b5") (fun F=>ok_Province___init__ F T )
 have D_Table_has_name:O_Table_has_name P w K mg base ad:=bC t.m_Table_has_name (by walk_at "b2") (fun F=>ok_Table_has_name F T D_Province_is_called)
 have D_are_small_letters:fH P w K mg base ad:=aA X G t.d_are_small_letters (by walk_at "b1") (fun F=>ok_are_small_letters F T )
 have D_is_shore_name:O_is_shore_name P w K mg base ad:=aA X G t.d_is_shore_name (by walk_at "b1") (fun F=>ok_is_shore_name F T D_are_small_letters)
 have D_are_fitting_shores:jG P w K mg base ad:=aA X G t.d_are_fitting_shores (by walk_at "b2") (fun F=>ok_are_fitting_shores F T D_is_shore_name)
 have D_is_great_letter:O_is_great_letter P w K mg base ad:=aA X G t.d_is_great_letter (by walk_at "b1") (fun F=>ok_is_great_letter F T )
 have D_is_great_then_small:dX P w K mg base ad:=aA X G t.d_is_great_then_small (by walk_at "b1") (fun F=>ok_is_great_then_small F T D_are_small_letters D_is_great_letter)
 have D_is_short_name:O_is_short_name P w K mg base ad:=aA X G t.d_is_short_name (by walk_at "b1") (fun F=>ok_is_short_name F T D_is_great_then_small)
 have D_is_name:O_is_name P w K mg base ad:=aA X G t.d_is_name (by walk_at "b1") (fun F=>ok_is_name F T D_is_great_then_small)
 have D_add_province:O_add_province P w K mg base ad:=aA X G t.d_add_province (by walk_at "b5") (fun F=>ok_add_province F T D_Province D_Table_has_name D_are_fitting_shores D_is_short_name D_is_name D_words_of D_is_text)
 have D_answer_province:O_answer_province P w K mg base ad:=aA X G t.d_answer_province (by walk_at "b2") (fun F=>ok_answer_province F T D_add_province D_Reader_take_row D_Reader_take_number)
 have D_Table_make_empty:gG P w K mg base ad:=bC t.m_Table_make_empty (by walk_at "b1") (fun F=>ok_Table_make_empty F T )
 have D_Reader:O_Reader P w K mg base ad:=kE X G t.c_Reader t.m_Reader___init__ (by walk_at "b2") (fun F=>ok_Reader___init__ F T )
 have D_Table:O_Table P w K mg base ad:=kE X G t.c_Table t.m_Table___init__ (by walk_at "b1") (fun F=>ok_Table___init__ F T D_Table_make_empty)
 exact⟨D_Reader_has_more,fun F=>ok_answer_call F T D_tell_orders D_find_provinces D_Reader_take_row D_tell_order D_Reader_take_number D_print_orders D_answer_read D_remove_unit D_answer_man D_answer_sea D_answer_land D_answer_province D_Table_make_empty,D_Reader,D_Table⟩
def sp_whole (K:W.Frag):Sp:=fun vs H Q _=>∃ (a:Addr)(ns:List Int)(xs:List Call),vs=[.ref a]/\SqL K H a (ns.map V.int)/\ns=xs.flatMap cD/\(∀ x∈xs,SmallC x)/\xs.length<=400/\∀ D H',H' D=some (.lst ((outOf Vbsoac.start xs).map V.int))->Q (.ref D) H'
theorem Top.whole {fa:Addr}(X:K.In h)(G:h.Ns mainGlobals mg)(hfa:mg "answers" = some (.ref fa))(t:Top K cProvince cUnit cTable cPlace cReader cReading a_HOLD):∃ fd:FuncData,(∀ (s:Shared)(us:List Value),us.length=(["calls"]:List Str).length->BindsTo s fd ⟨us,[]⟩ ((["calls"]:List Str).zip us))/\∀ base:Heap,K.In base->base.Ns mainGlobals mg->FnOk P w K mg base CX0 14 fa fd ["calls"] (sp_whole K):=by
 obtain⟨f,fd,a,F⟩:=t.d_answers.ex;have e:=hfa.symm.trans (W.mg_of X G a);cases e;have bd:Binds K fd ["calls"] []:=F.binds (fun _ _ _ _ _ _ us hl=>match us,hl with | [_],_=>rfl)
 obtain⟨oc,od,kV,doc,pm,an,cdv,ct,osl,efd,lk,hcd⟩:=F.ex;refine⟨fd,fun s us hu=>?_,fun base _ _=>?_⟩
 ·subst efd;exact match us,hu with | [_],_=>.of_eq rfl
 obtain⟨f2,fd2,a2,F2⟩:=t.d_answer_call.ex;have T:Txt K mg ⟨cProvince,cUnit,cTable,cPlace,cReader,cReading,a_HOLD,0⟩:=t.txt X G 0
 have al:=fun z=>t.all (P:=P) (w:=w) (base:=base) X G z
 have D:DefOk P w K mg base "answer_call" 13 ["table","reader"] (sp_any_call K P w ⟨cProvince,cUnit,cTable,cPlace,cReader,cReading,a_HOLD,0⟩):=by
  refine⟨f2,fd2,W.mg_of X G a2,F2.kp,F2.binds (by walk_at "b2"),⟨fun vs H Q E hh=>?_,fun A outer s H args us vs Q E hr he hb hv hh=>?_⟩⟩
  ·obtain⟨z,hz⟩:=hh;obtain⟨x_Reader_has_more,x_answer_call,x_Reader___init__,x_Table___init__⟩:=al z;exact(x_answer_call F2).len vs H Q E hz
  ·obtain⟨z,hz⟩:=hh;obtain⟨x_Reader_has_more,x_answer_call,x_Reader___init__,x_Table___init__⟩:=al z;exact(x_answer_call F2).run A outer s H args us vs Q E hr he hb hv hz
 obtain⟨x_Reader_has_more,x_answer_call,x_Reader___init__,x_Table___init__⟩:=al 0;exact ok_answers F T x_Reader_has_more D x_Reader___init__ x_Table___init__
end
end Ol
end
section
open PySem PySem.W PyProof.Rows
theorem PySem.Challenge.cw_orderlines_s01_answers_holds : PySem.Challenge.rw_orderlines_s01_answers.Holds := by
 refine @Oh.hd ⟨fun q loose XP K d hdf hdn T=>?_⟩
 refine L2.walk_specK (r:=PySem.Challenge.rw_orderlines_s01_answers) (k:=14) (CX:=L2.CX0) (ps:=["calls"]) (sp:=Ol.sp_whole) (by decide +kernel) hdf rfl ⟨rfl,by decide,by decide⟩ (fun w h Y=>Y) ?F ?S (fun _ _ _ _ z=>z)
 case F =>
  intro w mg fa h Y KX G hmg
  obtain⟨cProvince,cUnit,cTable,cPlace,cReader,cReading,a_HOLD,t⟩:=T w
  rw [hdn] at hmg
  exact Ol.Top.whole KX G hmg t
 case S =>
  intro K H xs a hO hwi hask hx
  cases hx with
  | cons h1 h2 =>
   cases h2
   cases h1 with
   | lst hs ha =>
    have e:=L2.ints_dw a.1 _ ha
    subst e
    obtain⟨ys,q1,q2,q3,q4⟩:=Ol.asked_enc (l:=a.1) hask
    refine⟨_,a.1,ys,rfl,hs,q1,q2,q3,fun D H' hD=>?_⟩
    have q5:Codec.app (PySem.Challenge.rw_orderlines_s01_answers).args (PySem.Challenge.rw_orderlines_s01_answers).f a=Ol.outOf Vbsoac.start ys:=q4
    rw [q5]
    exact .lst (L2.SqL.of hD) (L2.dw_ints _)
end

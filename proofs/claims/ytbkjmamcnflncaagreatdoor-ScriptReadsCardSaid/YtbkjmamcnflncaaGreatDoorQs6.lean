import Derived.Shelf.Strings.OnBuilder
import Derived.Shelf.Small.Utf8
import Derived.Shelf.Small.Wraps
import Derived.Shelf.Strconv.Itoa3
import Derived.Shelf.Strconv.ErrVarAll
import Derived.Shelf.Strings.Shaped
import Derived.Shelf.Strings.LastIndex
import Derived.Shelf.GgClosure.StringsIndexFuncTop
import Derived.Shelf.Strings.Replace
import Derived.Shelf.Strings.IndexAnyAll
import Derived.Shelf.Strings.BuilderCap
import Derived.Shelf.Slices.Turned
import Derived.Shelf.SlicesE.DeleteFunc
import Derived.Shelf.SortM.Plain
import Derived.Shelf.SortM.SortNone
import Derived.Test.YtbkjmamcnflncaaGreatDoorQs5
import Derived.Test.YtbkjmamcnflncaaGreatDoorQs4
import Derived.Deep.AppendLies
namespace Go.Proofs
open Go.Shelf
def Tryz.Ow:Go.Shelf.Ren:=⟨λ|170=>96|n=>n,λ|70=>184|3=>3|0=>0|72=>187|37=>185|5=>5|n=>n,λ|n=>n⟩
theorem Tryz.a5z:Go.Proofs.Lays.n170 prog Tryz.Ow:=by
 constructor<;>intros<;>first|kernel_rfl|constructor<;>intros<;>first|kernel_rfl|constructor<;>intros<;>kernel_rfl
def Tryz.CG:Go.Shelf.Ren:=⟨λ|169=>94|n=>n,λ|70=>184|9=>9|0=>0|72=>187|37=>185|127=>264|3=>3|5=>5|n=>n,λ|n=>n⟩
theorem Tryz.a5A:Go.Proofs.Lays.n169 prog Tryz.CG:=by
 constructor<;>intros<;>first|kernel_rfl|constructor<;>intros<;>first|kernel_rfl|constructor<;>intros<;>kernel_rfl
theorem Tryz.zK:Builder.Extra prog Tryz.CG:={
 sizeBuilder:=by kernel_rfl
 liesBuilder:=by kernel_rfl
 t5:=underlying5
 a5:=Tryz.isAgg5
 z5:=Tryz.sizeOf5
 v5:=Tryz.zeroValue5
 infoByte:=by kernel_rfl
 cellsByte:=by kernel_rfl
 sizeByte:=by kernel_rfl
 neB5:=by decide}
def Tryz.CJ:Go.Shelf.Ren:=⟨λ|156=>110|165=>152|166=>154|169=>94|240=>156|241=>221|276=>223|277=>284|n=>n,λ|31=>22|9=>9|3=>3|4=>4|0=>0|20=>20|72=>187|76=>248|70=>184|37=>185|75=>25|127=>264|164=>124|5=>5|80=>101|n=>n,λ|n=>n⟩
theorem Tryz.a5B:Go.Proofs.Lays.n156 prog Tryz.CJ:=by
 constructor<;>intros<;>first|kernel_rfl|constructor<;>intros<;>first|kernel_rfl|constructor<;>intros<;>kernel_rfl
theorem Tryz.zM:Builder.Extra prog Tryz.CJ:={
 sizeBuilder:=by kernel_rfl
 liesBuilder:=by kernel_rfl
 t5:=underlying5
 a5:=Tryz.isAgg5
 z5:=Tryz.sizeOf5
 v5:=Tryz.zeroValue5
 infoByte:=by kernel_rfl
 cellsByte:=by kernel_rfl
 sizeByte:=by kernel_rfl
 neB5:=by decide}
open Go.RowKit in
theorem Tryz.strings_Join (h o c:Nat)(d:List ByteArray)(a:ByteArray)(w:World)(b:∀(j:Nat) x,d[j]? =some x->w.cell? ⟨h,o+j,none⟩=some (.string x))(i:h<w.heap.size)(k:d.length<=140737488355328)(f:d.length<=c)(g:(Lib.join (d.map (·.data.toList)) a.data.toList).length<=140737488355328):
  Calls prog 110 #[.slice (some ⟨h,o,none⟩) d.length c,.string a] w λe w'=>e=.returned (.string ⟨(Lib.join (d.map (·.data.toList)) a.data.toList).toArray⟩)/\Below w.heap.size w w':=Any.strings_Join Tryz.a5B Tryz.zM h o c d a w b i k f g
def Tryz.Ox:Go.Shelf.Ren:=⟨λ|119=>334|n=>n,λ|21=>21|4=>4|n=>n,λ|n=>n⟩
theorem Tryz.a5C:Go.Proofs.Lays.n119 prog Tryz.Ox:=by
 constructor<;>intros<;>first|kernel_rfl|constructor<;>intros<;>first|kernel_rfl|constructor<;>intros<;>kernel_rfl
theorem Tryz.utf8_ValidRune (r:Int)(w:World):
  Calls prog 334 #[.int .i32 r] w λe w'=>e=.returned (.bool (Lib.validRune r))/\w'=w:=Any.utf8_ValidRune Tryz.a5C r w
def Tryz.Oy:Go.Shelf.Ren:=⟨λ|137=>200|217=>237|266=>303|n=>n,λ|9=>9|5=>5|3=>3|n=>n,λ|n=>n⟩
theorem Tryz.a5D:Go.Proofs.Lays.n137 prog Tryz.Oy:=by
 constructor<;>intros<;>first|kernel_rfl|constructor<;>intros<;>first|kernel_rfl|constructor<;>intros<;>kernel_rfl
open Go.RowKit in
theorem Tryz.strings_IndexByte (s:ByteArray)(c:Int)(w:World):
  Calls prog 200 #[.string s,.int .u8 c] w λe w'=>e=.returned (.int .i64 (Lib.indexByte s.data.toList c.toNat.toUInt8))/\w'=w:=Any.strings_IndexByte Tryz.a5D s c w
def Tryz.Oz:Go.Shelf.Ren:=⟨λ|103=>198|210=>269|206=>271|n=>n,λ|9=>9|4=>4|24=>38|3=>3|n=>n,λ|n=>n⟩
theorem Tryz.a5E:Go.Proofs.Lays.n103 prog Tryz.Oz:=by
 constructor<;>intros<;>first|kernel_rfl|constructor<;>intros<;>first|kernel_rfl|constructor<;>intros<;>kernel_rfl
open Go.RowKit in
theorem Tryz.strings_CutPrefix (s p:ByteArray)(w:World):
  Calls prog 198 #[.string s,.string p] w λe w'=>e=.returned (.tuple #[.string ⟨(Lib.trimPrefix s.data.toList p.data.toList).toArray⟩,.bool (Lib.hasPrefix s.data.toList p.data.toList)])/\w'=w:=Any.strings_CutPrefix Tryz.a5E s p w
def Tryz.OA:Go.Shelf.Ren:=⟨λ|104=>119|211=>179|207=>247|n=>n,λ|9=>9|4=>4|24=>38|3=>3|n=>n,λ|n=>n⟩
theorem Tryz.a5F:Go.Proofs.Lays.n104 prog Tryz.OA:=by
 constructor<;>intros<;>first|kernel_rfl|constructor<;>intros<;>first|kernel_rfl|constructor<;>intros<;>kernel_rfl
open Go.RowKit in
theorem Tryz.strings_CutSuffix (s p:ByteArray)(w:World)(hs:s.size<=9223372036854775807):
  Calls prog 119 #[.string s,.string p] w λe w'=>e=.returned (.tuple #[.string ⟨(Lib.trimSuffix s.data.toList p.data.toList).toArray⟩,.bool (Lib.hasSuffix s.data.toList p.data.toList)])/\w'=w:=Any.strings_CutSuffix Tryz.a5F s p w hs
open Go.RowKit in
theorem Tryz.Builder_Len_f (B b:Nat)(a:List Value)(w:World)(h:Lib.IsBuilderF 187 5 B b a w):
  Calls prog 96 #[.pointer (some ⟨b,0,none⟩)] w λe w'=>e=.returned (.int .i64 a.length)/\w'=w:=Any.Builder_Len_f Tryz.a5z B b a w h
open Go.RowKit in
theorem Tryz.Builder_String_any_k (B b:Nat)(l:List UInt8)(w:World)(h:Lib.IsBuilderF 187 5 B b (Lib.byteCells l) w)(a:B<=w.heap.size):
  Calls prog 94 #[.pointer (some ⟨b,0,none⟩)] w λe w'=>e=.returned (.string ⟨l.toArray⟩)/\(Lib.IsBuilderF 187 5 B b (Lib.byteCells l) w'/\Below B w w'/\Lib.OthersKept 5 (some b) w w'):=Any.Builder_String_any_k Tryz.a5A Tryz.zK B b l w h a
def Tryz.LP:Go.Shelf.Ren:=⟨λ|171=>45|243=>88|246=>150|283=>215|284=>216|285=>217|286=>218|129=>280|317=>279|318=>281|319=>282|320=>283|337=>332|338=>333|n=>n,λ|3=>3|9=>9|2=>2|4=>4|171=>306|0=>0|53=>307|37=>185|5=>5|173=>310|212=>358|51=>359|20=>20|213=>360|46=>321|232=>447|233=>448|n=>n,λ|17=>13|18=>18|19=>19|n=>n⟩
theorem Tryz.a0Z:Go.Proofs.LaysM.n171 prog Tryz.LP:=by
 constructor<;>intros<;>first|kernel_rfl|constructor<;>intros<;>first|kernel_rfl|constructor<;>intros<;>kernel_rfl
open Go.RowKit Go.Sort Go.Lib in
theorem Tryz.strconv_Itoa (n:Int)(b: -9223372036854775808<=n)(c:n<=9223372036854775807)(w:World)(a:Lib.TabIs prog w "internal/strconv.uint64pow10" .u64 Lib.pow10Tab):
  Calls prog 45 #[.int .i64 n] w λe w'=>e=.returned (.string ⟨(Lib.itoa n).toArray⟩)/\∃k d,w'=grow (w.drewN k) d:=Any.strconv_Itoa Tryz.a0Z n b c w a
def Tryz.LQ:Go.Shelf.Ren:=⟨λ|172=>176|244=>241|245=>242|247=>305|279=>306|280=>307|281=>308|282=>309|287=>343|316=>344|171=>45|205=>345|321=>364|322=>365|243=>88|246=>150|283=>215|284=>216|285=>217|286=>218|129=>280|317=>279|318=>281|319=>282|320=>283|337=>332|338=>333|n=>n,λ|9=>9|3=>3|75=>25|76=>248|4=>4|5=>5|167=>384|37=>185|0=>0|85=>385|2=>2|168=>387|53=>307|175=>428|46=>321|210=>431|127=>264|145=>455|143=>453|21=>21|171=>306|173=>310|212=>358|51=>359|20=>20|213=>360|232=>447|233=>448|80=>101|n=>n,λ|15=>16|16=>17|17=>13|18=>18|19=>19|n=>n⟩
theorem Tryz.Fw:Go.Proofs.LaysC.n172 prog Tryz.LQ:=by
 constructor<;>intros<;>first|kernel_rfl|constructor<;>intros<;>first|kernel_rfl|constructor<;>intros<;>kernel_rfl
open Go.RowKit in
theorem Tryz.strconv_Atoi_ok (s:ByteArray)(a:s.size<=9223372036854775806)(v:Int)(h:Lib.atoiAll s.data.toList=.ok v)(w:World):
  Calls prog 176 #[.string s] w λe w'=>e=.returned (.tuple #[.int .i64 v,.nilIface])/\(w'=w\/∃t,w'=Lib.bytesWorld w 5 t):=Any.strconv_Atoi_ok Tryz.Fw s a v h w
open Go.RowKit in
theorem Tryz.strconv_Atoi_syntax (s:ByteArray)(a:s.size<=281474976710656)(h:Lib.atoiAll s.data.toList=.«syntax»)(b:Value)(w:World)(d:w.cell? ⟨16,0,none⟩=some b)(c:b=.nilIface\/∃f g,b=.iface f g):
  Calls prog 176 #[.string s] w λe w'=>∃N,e=.returned (.tuple #[.int .i64 (0),.iface 387 (.pointer (some ⟨N,0,none⟩))])/\w.heap.size<=N/\w'.heap[N]? =some (.cells #[.string ⟨#[65,116,111,105]⟩,.string s,b] 431 (0,0))/\Below w.heap.size w w':=Any.strconv_Atoi_syntax Tryz.Fw s a h b w d c
open Go.RowKit in
theorem Tryz.strconv_Atoi_range (s:ByteArray)(a:s.size<=281474976710656)(h:Lib.atoiAll s.data.toList=.range)(b:Value)(w:World)(d:w.cell? ⟨17,0,none⟩=some b)(c:b=.nilIface\/∃f g,b=.iface f g):
  Calls prog 176 #[.string s] w λe w'=>∃N,e=.returned (.tuple #[.int .i64 (Lib.atoiSat s.data.toList),.iface 387 (.pointer (some ⟨N,0,none⟩))])/\w.heap.size<=N/\w'.heap[N]? =some (.cells #[.string ⟨#[65,116,111,105]⟩,.string s,b] 431 (0,0))/\Below w.heap.size w w':=Any.strconv_Atoi_range Tryz.Fw s a h b w d c
def Tryz.OB:Go.Shelf.Ren:=⟨λ|219=>175|217=>237|225=>238|224=>239|267=>240|266=>303|314=>304|n=>n,λ|9=>9|3=>3|4=>4|5=>5|46=>321|146=>382|51=>359|n=>n,λ|1=>12|n=>n⟩
theorem Tryz.a5G:Go.Proofs.Lays.n219 prog Tryz.OB:=by
 constructor<;>intros<;>first|kernel_rfl|constructor<;>intros<;>first|kernel_rfl|constructor<;>intros<;>kernel_rfl
open Go.RowKit Go.Lib in
theorem Tryz.stringslite_Index_one (s:ByteArray)(c:UInt8)(w:World):
  Calls prog 175 #[.string s,.string ⟨#[c]⟩] w λe w'=>e=.returned (.int .i64 (Lib.indexByte s.data.toList c))/\w'=w:=Any.stringslite_Index_one Tryz.a5G s c w
def Tryz.OE:Go.Shelf.Ren:=⟨λ|143=>153|219=>175|217=>237|225=>238|224=>239|267=>240|266=>303|314=>304|n=>n,λ|9=>9|3=>3|4=>4|5=>5|46=>321|146=>382|51=>359|n=>n,λ|1=>12|n=>n⟩
theorem Tryz.a5H:Go.Proofs.Lays.n143 prog Tryz.OE:=by
 constructor<;>intros<;>first|kernel_rfl|constructor<;>intros<;>first|kernel_rfl|constructor<;>intros<;>kernel_rfl
def Tryz.OG:Go.Shelf.Ren:=⟨λ|145=>59|220=>113|219=>175|217=>237|225=>238|224=>239|267=>240|266=>303|314=>304|n=>n,λ|9=>9|4=>4|59=>119|3=>3|5=>5|46=>321|146=>382|51=>359|n=>n,λ|1=>12|n=>n⟩
theorem Tryz.a5I:Go.Proofs.Lays.n145 prog Tryz.OG:=by
 constructor<;>intros<;>first|kernel_rfl|constructor<;>intros<;>first|kernel_rfl|constructor<;>intros<;>kernel_rfl
open Go.RowKit Go.Lib in
theorem Tryz.strings_Cut (s a:ByteArray)(m:Int)(w:World)(hs:s.size<4294967281)(b:w.cell? ⟨12,0,none⟩=some (.int .i64 m)):
  Calls prog 59 #[.string s,.string a] w λe w'=>e=.returned (.tuple #[.string ⟨(Lib.cut s.data.toList a.data.toList).1.toArray⟩,.string ⟨(Lib.cut s.data.toList a.data.toList).2.1.toArray⟩,.bool (Lib.cut s.data.toList a.data.toList).2.2])/\∃n,w'=w.drewN n:=Any.strings_Cut Tryz.a5I s a m w hs b
def Tryz.OH:Go.Shelf.Ren:=⟨λ|138=>151|195=>219|218=>220|143=>153|219=>175|217=>237|225=>238|224=>239|267=>240|266=>303|314=>304|n=>n,λ|9=>9|3=>3|4=>4|5=>5|0=>0|46=>321|146=>382|51=>359|n=>n,λ|1=>12|n=>n⟩
theorem Tryz.a5J:Go.Proofs.Lays.n138 prog Tryz.OH:=by
 constructor<;>intros<;>first|kernel_rfl|constructor<;>intros<;>first|kernel_rfl|constructor<;>intros<;>kernel_rfl
def Tryz.LU:Go.Shelf.Ren:=⟨λ|145=>59|220=>113|219=>175|217=>237|225=>238|224=>239|267=>240|266=>303|314=>304|n=>n,λ|9=>9|4=>4|59=>119|3=>3|5=>5|46=>321|146=>382|51=>359|n=>n,λ|1=>12|n=>n⟩
theorem Tryz.a13:Go.Proofs.LaysM.n145 prog Tryz.LU:=by
 constructor<;>first|exact λw h=>Go.Proofs.cell_of_shapedOpen_int (zero:=#[.int .i64 0]) (t:=3) h (of_decide_eq_true (by kernel_rfl)) (by kernel_rfl) rfl (by kernel_rfl) (by kernel_rfl) underlying3|(intros;first|kernel_rfl|constructor<;>intros<;>first|kernel_rfl|constructor<;>intros<;>kernel_rfl)
def Tryz.OI:Go.Shelf.Ren:=⟨λ|149=>225|222=>285|n=>n,λ|9=>9|5=>5|3=>3|4=>4|n=>n,λ|n=>n⟩
theorem Tryz.a5K:Go.Proofs.Lays.n149 prog Tryz.OI:=by
 constructor<;>intros<;>first|kernel_rfl|constructor<;>intros<;>first|kernel_rfl|constructor<;>intros<;>kernel_rfl
open Go.RowKit Go.Lib in
theorem Tryz.strings_LastIndexByte (s:ByteArray)(c:Int)(hs:s.size<4611686018427387904)(w:World):
  Calls prog 225 #[.string s,.int .u8 c] w λe w'=>e=.returned (.int .i64 (Lib.lastIndexByte s c))/\w'=w:=Any.strings_LastIndexByte Tryz.a5K s c hs w
def Tryz.LV:Go.Shelf.Ren:=⟨λ|17=>180|15=>248|20=>310|n=>n,λ|9=>9|23=>283|4=>4|3=>3|0=>0|21=>21|n=>n,λ|n=>n⟩
theorem Tryz.a14:Go.Proofs.LaysGw.n17 prog Tryz.LV:=by
 constructor<;>intros<;>first|kernel_rfl|constructor<;>intros<;>first|kernel_rfl|constructor<;>intros<;>kernel_rfl
open Go.RowKit Go.Lib in
theorem Tryz.strings_ContainsFunc (g:Nat)(lb:Array Value)(a:∀args w,(callFunc g args).run prog w=.ok (.enter g args) w)(p:Nat->Bool)(s:ByteArray)(w:World)(hp:PredAt prog g lb encR p w):
  Calls prog 180 #[.string s,.func (.func g) #[] lb] w λe w'=>e=.returned (.bool (decide (0<=Lib.idxFunc p true s)))/\Below w.heap.size w w':=Any.strings_ContainsFunc Tryz.a14 g lb a p s w hp
def Tryz.Tk:Go.Shelf.Ren:=⟨λ|99=>202|206=>271|n=>n,λ|9=>9|4=>4|3=>3|n=>n,λ|n=>n⟩
theorem Tryz.aai:Go.Proofs.Lays.n99 prog Tryz.Tk:=by
 constructor<;>intros<;>first|kernel_rfl|constructor<;>intros<;>first|kernel_rfl|constructor<;>intros<;>kernel_rfl
open Go.RowKit Go.Lib in
theorem Tryz.strings_HasPrefix (s p:ByteArray)(w:World):
  Calls prog 202 #[.string s,.string p] w λe w'=>e=.returned (.bool (Lib.hasPrefix s.data.toList p.data.toList))/\w'=w:=Any.strings_HasPrefix Tryz.aai s p w
def Tryz.OJ:Go.Shelf.Ren:=⟨λ|221=>336|268=>362|138=>151|143=>153|195=>219|197=>155|218=>220|219=>175|260=>222|217=>237|225=>238|224=>239|267=>240|266=>303|314=>304|n=>n,λ|9=>9|3=>3|31=>22|4=>4|0=>0|105=>262|21=>21|5=>5|46=>321|119=>362|139=>365|138=>364|146=>382|51=>359|n=>n,λ|1=>12|3=>14|4=>15|n=>n⟩
theorem Tryz.a5L:Go.Proofs.Lays.n221 prog Tryz.OJ:=by
 constructor<;>intros<;>first|kernel_rfl|constructor<;>intros<;>first|kernel_rfl|constructor<;>intros<;>kernel_rfl
def Tryz.CO:Go.Shelf.Ren:=⟨λ|155=>48|154=>90|138=>151|165=>152|143=>153|166=>154|197=>155|169=>94|195=>219|218=>220|240=>156|241=>221|219=>175|260=>222|276=>223|277=>284|217=>237|225=>238|224=>239|267=>240|266=>303|314=>304|n=>n,λ|9=>9|3=>3|4=>4|72=>187|0=>0|76=>248|105=>262|21=>21|5=>5|70=>184|20=>20|37=>185|75=>25|127=>264|164=>124|46=>321|119=>362|139=>365|138=>364|146=>382|51=>359|80=>101|n=>n,λ|1=>12|3=>14|4=>15|n=>n⟩
theorem Tryz.a5M:Go.Proofs.Lays.n155 prog Tryz.CO:=by
 constructor<;>intros<;>first|kernel_rfl|constructor<;>intros<;>first|kernel_rfl|constructor<;>intros<;>kernel_rfl
theorem Tryz.zN:Builder.Extra prog Tryz.CO:={
 sizeBuilder:=by kernel_rfl
 liesBuilder:=by kernel_rfl
 t5:=underlying5
 a5:=Tryz.isAgg5
 z5:=Tryz.sizeOf5
 v5:=Tryz.zeroValue5
 infoByte:=by kernel_rfl
 cellsByte:=by kernel_rfl
 sizeByte:=by kernel_rfl
 neB5:=by decide}
open Go.RowKit Go.Lib in
theorem Tryz.strings_ReplaceAll (s a b:ByteArray)(m:Int)(w:World)(hs:s.size<4294967281)(d:w.cell? ⟨12,0,none⟩=some (.int .i64 m))(f:1<=a.size)(c:s.size+Lib.countB s a*b.size<=140737488355328):
  Calls prog 48 #[.string s,.string a,.string b] w λe w'=>
   e=.returned (.string ⟨(Lib.replaceAll s.data.toList a.data.toList b.data.toList).toArray⟩)/\Below w.heap.size w w':=Any.strings_ReplaceAll Tryz.a5M Tryz.zN s a b m w hs d f c
def Tryz.OL:Go.Shelf.Ren:=⟨λ|152=>286|137=>200|119=>334|224=>239|225=>238|217=>237|266=>303|n=>n,λ|9=>9|21=>21|3=>3|4=>4|5=>5|0=>0|46=>321|n=>n,λ|n=>n⟩
theorem Tryz.a5N:Go.Proofs.Lays.n152 prog Tryz.OL:=by
 constructor<;>intros<;>first|kernel_rfl|constructor<;>intros<;>first|kernel_rfl|constructor<;>intros<;>kernel_rfl
open Go.RowKit Go.Lib in
theorem Tryz.strings_IndexRune_ascii (s:ByteArray)(r:Int)(w:World)(a:0<=r)(b:r<128):
  Calls prog 286 #[.string s,.int .i32 r] w λe w'=>e=.returned (.int .i64 (Lib.indexByte s.data.toList r.toNat.toUInt8))/\w'=w:=Any.strings_IndexRune_ascii Tryz.a5N s r w a b
def Tryz.OM:Go.Shelf.Ren:=⟨λ|226=>287|n=>n,λ|3=>3|4=>4|n=>n,λ|n=>n⟩
theorem Tryz.a5O:Go.Proofs.Lays.n226 prog Tryz.OM:=by
 constructor<;>intros<;>first|kernel_rfl|constructor<;>intros<;>first|kernel_rfl|constructor<;>intros<;>kernel_rfl
open Go.RowKit Go.Lib in
theorem Tryz.strings_shouldUseASCIISet (n:Int)(w:World):
  Calls prog 287 #[.int .i64 n] w λe w'=>e=.returned (.bool (decide (8<n)))/\w'=w:=Any.strings_shouldUseASCIISet Tryz.a5O n w
def Tryz.OO:Go.Shelf.Ren:=⟨λ|153=>227|152=>286|226=>287|227=>288|228=>289|137=>200|119=>334|224=>239|225=>238|217=>237|266=>303|n=>n,λ|9=>9|3=>3|4=>4|5=>5|21=>21|117=>369|116=>368|0=>0|46=>321|124=>419|n=>n,λ|n=>n⟩
theorem Tryz.a5P:Go.Proofs.Lays.n153 prog Tryz.OO:=by
 constructor<;>intros<;>first|kernel_rfl|constructor<;>intros<;>first|kernel_rfl|constructor<;>intros<;>kernel_rfl
open Go.RowKit Go.Lib in
theorem Tryz.strings_IndexAny_long (d:∀w,(zeroValue 368).run prog w=.ok (.agg (Array.replicate 256 (.bool false))) w)(s a:ByteArray)(w:World)(f:2<=a.size)(g:8<s.size)(hs:s.size<4294967281)(hcs:a.size<4294967281)(c:∀(j:Nat) b,a.data.toList[j]? =some b->b.toNat<128):
  Calls prog 227 #[.string s,.string a] w λe w'=>e=.returned (.int .i64 (Lib.indexAny s.data.toList a.data.toList))/\w'=((w.alloc (.cells (Lib.setCells a.data.toList) 368)).alloc (.cells (Lib.setCells a.data.toList) 368)):=Any.strings_IndexAny_long Tryz.a5P d (by kernel_rfl) s a w f g hs hcs c
def Tryz.OP:Go.Shelf.Ren:=⟨λ|110=>290|109=>335|n=>n,λ|31=>22|9=>9|4=>4|3=>3|0=>0|n=>n,λ|n=>n⟩
theorem Tryz.a5Q:Go.Proofs.Lays.n110 prog Tryz.OP:=by
 constructor<;>intros<;>first|kernel_rfl|constructor<;>intros<;>first|kernel_rfl|constructor<;>intros<;>kernel_rfl
open Go.Lib in
theorem Tryz.slices_Contains_string (b off n c:Nat)(a:List ByteArray)(x:ByteArray)(w:World)(f:n<=a.length)(d:n<=9223372036854775807)(hc:∀j,j<a.length->w.cell? ⟨b,off+j,none⟩=some (.string (a.getD j ByteArray.empty))):
  Calls prog 290 #[.slice (some ⟨b,off,none⟩) n c,.string x] w λe w'=>e=.returned (.bool (Lib.containsS (a.take n) x))/\w'=w:=Any.slices_Contains_string Tryz.a5Q b off n c a x w f d hc
end Go.Proofs
namespace Go.Proofs.YtbkjmamcnflncaaGreatDoor
open Go.Proofs.Tryz
set_option maxHeartbeats 8000000
section
open Go.RowKit
def ahead (c:UInt8):List UInt8->List UInt8
 |[]=>[]
 |b::l=>if b=c then[] else b::ahead c l
def behind (c:UInt8):List UInt8->Option (List UInt8)
 |[]=>none
 |b::l=>if b=c then some l else behind c l
theorem index_none (c:UInt8):∀l:List UInt8,behind c l=none->Lib.indexByte l c= -1/\ahead c l=l
 |[],_=>⟨rfl,rfl⟩
 |b::l,h=>by
  unfold behind at h;split at h
  .cases h
  .rename_i a;obtain⟨d,e⟩:=index_none c l h;unfold Lib.indexByte ahead;grind
theorem tX (c:UInt8):∀(l r:List UInt8),behind c l=some r->∃i:Nat,Lib.indexByte l c=i/\i<l.length/\l.take i=ahead c l/\l.drop (i+1)=r
 |[],_,h=>by cases h
 |b::l,r,h=>by
  unfold behind at h;split at h
  .rename_i a;subst a;cases h;exact⟨0,by unfold Lib.indexByte;simp,aG,by unfold ahead;simp,rfl⟩
  .rename_i a;obtain⟨i,d,e,f,g⟩:=tX c l r h;refine⟨i+1,?_,by simpa using e,?_,by simpa using g⟩
   .unfold Lib.indexByte;have:((i:Int)== -1)=false:=by rw[dL];omega
    simp[a,d,this]
   .unfold ahead;simp[a,f]
theorem ext_list {s t:aM}(h:s.data.toList=t.data.toList):s=t:=by
 apply ByteArray.ext;exact Array.toList_inj.1 h
theorem a15 (s:aM)(w:ah)(h:behind 47 s.data.toList=none):
  aJ 113 #[ak s,ak ⟨#[47]⟩] w λe w'=>e=ax (aF #[ak s,ak ⟨#[]⟩,.bool false])/\∃k,w'=w.drewN k:=by
 obtain⟨b,_⟩:=index_none 47 _ h;have a:=Tryz.stringslite_Index_one s 47;rw[b] at a;have c:=aA a;clear a b h;go_enter func113,ntmps113;go_wp2_with(go_at_call 175;refine(c.out _).mono ?_;rintro e w' ⟨rfl,rfl⟩);go_ret3;exact⟨rfl,0,rfl⟩
theorem a18 (s a b:aM)(w:ah)(d:behind 47 s.data.toList=some b.data.toList)(f:ahead 47 s.data.toList=a.data.toList)(n:s.size<=9223372036854775807):
  aJ 113 #[ak s,ak ⟨#[47]⟩] w λe w'=>e=ax (aF #[ak a,ak b,.bool true])/\∃k,w'=w.drewN k:=by
 obtain⟨i,g,l,h,j⟩:=tX 47 _ _ d;rw[lX] at l;have c:=Tryz.stringslite_Index_one s 47;rw[g] at c;have m:=aA c;have o:s.extract 0 i=a:=ext_list (by rw[Lib.extract_data];simpa[f] using h);have p:s.extract (i+1) s.size=b:=ext_list (by rw[Lib.extract_to_end];exact j);clear c g h j f d;have q:(0:Int)<=(i:Int):=aa;go_enter func113,ntmps113;go_wp2_with(go_at_call 175;refine(m.out _).mono ?_;rintro e w' ⟨rfl,rfl⟩)
 go_quiet (fail)
 go_wp2;go_ret3;exact⟨rfl,_,rfl⟩
theorem Fx (s:aM)(w:ah)(h:behind 47 s.data.toList=none):
  aJ 59 #[ak s,ak ⟨#[47]⟩] w λe w'=>e=ax (aF #[ak s,ak ⟨#[]⟩,.bool false])/\∃k,w'=w.drewN k:=by
 have a:=aA h;clear h;go_enter func59,ntmps59;go_wp2_with(go_at_call 113;refine(a15 s _ a.out).mono ?_;rintro e w' ⟨rfl,k,rfl⟩);go_ret3;exact⟨rfl,_,rfl⟩
theorem vM (s a b:aM)(w:ah)(c:behind 47 s.data.toList=some b.data.toList)(d:ahead 47 s.data.toList=a.data.toList)(f:s.size<=9223372036854775807):
  aJ 59 #[ak s,ak ⟨#[47]⟩] w λe w'=>e=ax (aF #[ak a,ak b,.bool true])/\∃k,w'=w.drewN k:=by
 have g:=aA c;have h:=aA d;clear d c;go_enter func59,ntmps59;go_wp2_with(go_at_call 113;refine(a18 s a b _ g.out h.out f).mono ?_;rintro e w' ⟨rfl,k,rfl⟩);go_ret3;exact⟨rfl,_,rfl⟩
def qw (l:List UInt8):Option Int:=
 if zJ (Lib.trimPrefix l [45])=true/\¬(Lib.hasPrefix l [45]=true/\val (Lib.trimPrefix l [45])=0) then some (if Lib.hasPrefix l [45]=true then -(val (Lib.trimPrefix l [45]):Int) else val (Lib.trimPrefix l [45])) else none
theorem yG {l:List UInt8}(h:zJ l=true):(val l:Int)<10000000000:=by
 unfold zJ at h;rw[iW] at h;have:=aah h.2 (Fs.1 h.1).2.1;omega
theorem lZ (s:aM)(b:Bool)(v:Int)(w:ah)(a:zJ s.data.toList=b)(c:(if b=true then(val s.data.toList:Int) else 0)=v):
  aJ 351 #[ak s] w λe w'=>e=ax (aF #[ag v,.bool b])/\w'=w:=by
 subst a;subst c;exact Fv s w
theorem oQ (s t:aM)(b:Bool)(w:ah)(a:Lib.trimPrefix s.data.toList [45]=t.data.toList)(c:Lib.hasPrefix s.data.toList [45]=b):
  aJ 198 #[ak s,ak ⟨#[45]⟩] w λe w'=>e=ax (aF #[ak t,.bool b])/\w'=w:=by
 have:=Tryz.strings_CutPrefix s ⟨#[45]⟩ w;have e:(⟨(Lib.trimPrefix s.data.toList [45]).toArray⟩:aM)=t:=ext_list (by rw[a]);grind
theorem CQ (s:aM)(b:Bool)(v:Int)(w:ah)(h:qw s.data.toList=none/\b=false/\v=0\/qw s.data.toList=some v/\b=true):
  aJ 350 #[ak s] w λe w'=>e=ax (aF #[ag v,.bool b])/\w'=w:=by
 obtain⟨t,o⟩:∃t:aM,Lib.trimPrefix s.data.toList [45]=t.data.toList:=⟨⟨(Lib.trimPrefix s.data.toList [45]).toArray⟩,aG⟩;obtain⟨g,p⟩:∃g,Lib.hasPrefix s.data.toList [45]=g:=⟨_,rfl⟩;obtain⟨d,i⟩:∃d,zJ t.data.toList=d:=⟨_,rfl⟩;have f:=h;unfold qw at f;rw[o,p,i] at f;have k:=aA o;have l:=aA p;clear h o p;cases d with
 |false=>
  obtain⟨rfl,rfl⟩:b=false/\v=0:=by rcases f with⟨_,a,c⟩|⟨a,_⟩;exact⟨a,c⟩;simp at a
  have j:=aA i;clear f i;go_enter func350,ntmps350;go_wp2_with(first|(go_at_call 198;refine(oQ s t g _ k.out l.out).mono ?_;rintro e w' ⟨rfl,rfl⟩)|(go_at_call 351;refine(lZ t false 0 _ j.out aG).mono ?_;rintro e w' ⟨rfl,rfl⟩))
  go_ret2
  exact⟨rfl,rfl⟩
 |true=>
  have u:=yG i;obtain⟨m,q⟩:∃m:Nat,val t.data.toList=m:=⟨_,rfl⟩;rw[q] at f u;have j:=aA i;have r:Hid ((if true=true then(val t.data.toList:Int) else 0)=m):=by show _=_;rw[if_pos rfl,q]
  clear i q;cases g with
  |false=>
   obtain⟨rfl,rfl⟩:b=true/\v=m:=by
    rcases f with⟨a,_,_⟩|⟨a,c⟩
    .simp at a
    .simp at a;exact⟨c,a.symm⟩
   clear f;go_enter func350,ntmps350;go_wp2_with(first|(go_at_call 198;refine(oQ s t false _ k.out l.out).mono ?_;rintro e w' ⟨rfl,rfl⟩)|(go_at_call 351;refine(lZ t true m _ j.out r.out).mono ?_;rintro e w' ⟨rfl,rfl⟩))
   go_ret2
   exact⟨rfl,rfl⟩
  |true=>
   by_cases n:m=0
   .subst n;obtain⟨rfl,rfl⟩:b=false/\v=0:=by
     rcases f with⟨_,a,c⟩|⟨a,_⟩
     .exact⟨a,c⟩
     .simp at a
    clear f;go_enter func350,ntmps350;go_wp2_with(first|(go_at_call 198;refine(oQ s t true _ k.out l.out).mono ?_;rintro e w' ⟨rfl,rfl⟩)|(go_at_call 351;refine(lZ t true 0 _ j.out r.out).mono ?_;rintro e w' ⟨rfl,rfl⟩))
    go_ret2
    exact⟨rfl,rfl⟩
   .obtain⟨rfl,rfl⟩:b=true/\v= -(m:Int):=by
     rcases f with⟨a,_,_⟩|⟨a,c⟩
     .simp[n] at a
     .simp[n] at a;exact⟨c,a.symm⟩
    have x:((m:Int)==0)=false:=by rw[dL];omega
    have y:wrap64 (-(m:Int))= -(m:Int):=IntWalk.wrap64_in _ ⟨aa,aa⟩;clear f n;go_enter func350,ntmps350;go_wp2_with(first|(go_at_call 198;refine(oQ s t true _ k.out l.out).mono ?_;rintro e w' ⟨rfl,rfl⟩)|(go_at_call 351;refine(lZ t true m _ j.out r.out).mono ?_;rintro e w' ⟨rfl,rfl⟩))
    go_ret2
    exact⟨rfl,rfl⟩
def ck (n d:Int):R3:=if fH n d=0 then⟨n,d,0⟩ else⟨0,0,fH n d⟩
def rd (l:List UInt8):R3:=
 match qw (ahead 47 l) with
 |none=>⟨0,0,1⟩
 |some n=>match behind 47 l with
  |none=>ck n 1
  |some b=>if zJ b=true/\val b≠1 then ck n (val b) else⟨0,0,1⟩
def Sk (aT aB aS aZ:Addr)(c:Nat):au:=if c=1 then aP 453 (.pointer (some aT)) else er aB aS aZ c
theorem zO {l:List UInt8}{v:Int}(h:qw l=some v): -10000000000<v/\v<10000000000:=by
 unfold qw at h;split at h
 .rename_i a;have:=yG a.1;grind
 .cases h
theorem OQ (s:aM)(w:ah)(h:qw s.data.toList=none):
  aJ 350 #[ak s] w λe w'=>e=ax (aF #[ag 0,.bool false])/\w'=w:=CQ s false 0 w (Or.inl ⟨h,rfl,rfl⟩)
theorem rX (s:aM)(v:Int)(w:ah)(h:qw s.data.toList=some v):
  aJ 350 #[ak s] w λe w'=>e=ax (aF #[ag v,.bool true])/\w'=w:=CQ s true v w (Or.inr ⟨h,rfl⟩)
theorem OT (aB aS aZ:Addr)(n d:Int)(w:ah)(a: -9223372036854775808<=n)(b:n<=9223372036854775807)(c: -9223372036854775808<=d)(f:d<=9223372036854775807)(h:E3 aB aS aZ w)(hc:fH n d=0):
  aJ 253 #[ag n,ag d] w λe w'=>e=ax aU/\∃k,w'=w.drewN k:=by
 have:=Ba aB aS aZ n d w a b c f h;rw[hc] at this;exact this
theorem OU (aB aS aZ:Addr)(n d:Int)(a:Addr)(w:ah)(b: -9223372036854775808<=n)(c:n<=9223372036854775807)(f: -9223372036854775808<=d)(g:d<=9223372036854775807)(h:E3 aB aS aZ w)(hc:er aB aS aZ (fH n d)=aP 453 (.pointer (some a))):
  aJ 253 #[ag n,ag d] w λe w'=>e=ax (aP 453 (.pointer (some a)))/\∃k,w'=w.drewN k:=by
 rw[<- hc];exact Ba aB aS aZ n d w b c f g h
theorem a19 (aT aB aS aZ:Addr){c:Nat}(h:c≠1):Sk aT aB aS aZ c=er aB aS aZ c:=by unfold Sk;rw[if_neg h]
theorem Y3 (aT aB aS aZ:Addr)(s:aM)(w:ah)(h:E3 aB aS aZ w)(j:w.cell? (aH 1 0)=some (aP 453 (.pointer (some aT))))(d:behind 47 s.data.toList=none):
  aJ 319 #[ak s] w λe w'=>e=ax (aF #[.agg #[ag (rd s.data.toList).n,ag (rd s.data.toList).d],Sk aT aB aS aZ (rd s.data.toList).c])/\aD w w':=by
 have l:=(index_none 47 _ d).2;have p:=aA d;have b:=aR j;simp only at b;have t:¬1=w.heap.size:=aa;have u:∀o,(w.alloc o).cell? (aH 1 0)=some (aP 453 (.pointer (some aT))):=λo=>by
  rw[qh _ _ ⟨1,0,none⟩ b];exact j
 cases c:qw s.data.toList with
 |none=>
  have f:rd s.data.toList=⟨0,0,1⟩:=by unfold rd;rw[l,c]
  rw[f];have m:=aA c;clear c f l d j b;go_enter func319,ntmps319;go_wp2_with(first|(go_at_call 59;refine(Fx s _ p.out).mono ?_;rintro e w' ⟨rfl,k,rfl⟩)|(go_at_call 350;refine(OQ s _ m.out).mono ?_;rintro e w' ⟨rfl,rfl⟩));go_region;go_wp2;refine bodyPost_ret (v:=aF #[.agg #[ag 0,ag 0],aP 453 (.pointer (some aT))]) (by simp[results,results319,go_sem]) rfl ⟨rfl,?_⟩
  first|exact below_drewN ((aQ _ _).alloc ay _) _|exact((below_drewN ((aQ _ _).alloc ay _) _).setCell aG _).setCell aG _
 |some n=>
  have f:rd s.data.toList=ck n 1:=by unfold rd;rw[l,c,d]
  rw[f];have m:=aA c;obtain⟨y,z⟩:=zO c;clear c f l d j b;by_cases g:fH n 1=0
  .have e:ck n 1=⟨n,1,0⟩:=by unfold ck;rw[if_pos g]
   rw[e];have q:=aA g;clear e g;go_enter func319,ntmps319;go_wp2_with(first|(go_at_call 59;refine(Fx s _ p.out).mono ?_;rintro e w' ⟨rfl,k,rfl⟩)|(go_at_call 350;refine(rX s n _ m.out).mono ?_;rintro e w' ⟨rfl,rfl⟩)|(go_at_call 253;refine(OT aB aS aZ _ _ _ aa aa aa aa ?_ q.out).mono ?_;exact(h.alloc _).drewN _;rintro e w' ⟨rfl,x,rfl⟩));refine bodyPost_ret (v:=aF #[.agg #[ag n,ag 1],aU]) (by simp[results,results319,go_sem]) rfl ⟨rfl,?_⟩
   first|exact below_drewN ((aQ _ _).alloc ay _) _|exact((below_drewN ((aQ _ _).alloc ay _) _).setCell aG _).setCell aG _
  .have i:fH n 1=2\/fH n 1=3:=by rcases gZ n 1 with e|e|e<;>simp_all
   have e:ck n 1=⟨0,0,fH n 1⟩:=by unfold ck;rw[if_neg g]
   obtain⟨a,r⟩:=jk aB aS aZ i;rw[e];simp only;rw[a19 aT aB aS aZ (show fH n 1≠1 by omega),r];have q:=aA r;clear e g i r;go_enter func319,ntmps319;go_wp2_with(first|(go_at_call 59;refine(Fx s _ p.out).mono ?_;rintro e w' ⟨rfl,k,rfl⟩)|(go_at_call 350;refine(rX s n _ m.out).mono ?_;rintro e w' ⟨rfl,rfl⟩)|(go_at_call 253;refine(OU aB aS aZ _ _ a _ aa aa aa aa ?_ q.out).mono ?_;exact(h.alloc _).drewN _;rintro e w' ⟨rfl,x,rfl⟩));refine bodyPost_ret (v:=aF #[.agg #[ag 0,ag 0],aP 453 (.pointer (some a))]) (by simp[results,results319,go_sem]) rfl ⟨rfl,?_⟩
   first|exact below_drewN ((aQ _ _).alloc ay _) _|exact((below_drewN ((aQ _ _).alloc ay _) _).setCell aG _).setCell aG _
theorem Y4 (aT aB aS aZ:Addr)(s a b:aM)(w:ah)(h:E3 aB aS aZ w)(z:w.cell? (aH 1 0)=some (aP 453 (.pointer (some aT))))(A:behind 47 s.data.toList=some b.data.toList)(l:ahead 47 s.data.toList=a.data.toList)(m:s.size<=9223372036854775807):
  aJ 319 #[ak s] w λe w'=>e=ax (aF #[.agg #[ag (rd s.data.toList).n,ag (rd s.data.toList).d],Sk aT aB aS aZ (rd s.data.toList).c])/\aD w w':=by
 have p:=aA A;have q:=aA l;have c:=aR z;simp only at c;have E:¬1=w.heap.size:=aa;have H:∀o,(w.alloc o).cell? (aH 1 0)=some (aP 453 (.pointer (some aT))):=λo=>by
  rw[qh _ _ ⟨1,0,none⟩ c];exact z
 cases g:qw a.data.toList with
 |none=>
  have r:rd s.data.toList=⟨0,0,1⟩:=by unfold rd;rw[l,g]
  rw[r];have j:=aA g;clear g r l A z c;go_enter func319,ntmps319;go_wp2_with(first|(go_at_call 59;refine(vM s a b _ p.out q.out m).mono ?_;rintro e w' ⟨rfl,k,rfl⟩)|(go_at_call 350;refine(OQ a _ j.out).mono ?_;rintro e w' ⟨rfl,rfl⟩));go_region;go_wp2;refine bodyPost_ret (v:=aF #[.agg #[ag 0,ag 0],aP 453 (.pointer (some aT))]) (by simp[results,results319,go_sem]) rfl ⟨rfl,?_⟩
  first|exact below_drewN ((aQ _ _).alloc ay _) _|exact((below_drewN ((aQ _ _).alloc ay _) _).setCell aG _).setCell aG _
 |some n=>
  have r:rd s.data.toList=if zJ b.data.toList=true/\val b.data.toList≠1 then ck n (val b.data.toList) else⟨0,0,1⟩:=by unfold rd;rw[l,g,A]
  rw[r];have j:=aA g;obtain⟨L,M⟩:=zO g;clear g r l A z c;cases t:zJ b.data.toList with
  |false=>
   rw[if_neg aG];have u:=aA t;clear t;go_enter func319,ntmps319;go_wp2_with(first|(go_at_call 59;refine(vM s a b _ p.out q.out m).mono ?_;rintro e w' ⟨rfl,k,rfl⟩)|(go_at_call 350;refine(rX a n _ j.out).mono ?_;rintro e w' ⟨rfl,rfl⟩)|(go_at_call 351;refine(lZ b false 0 _ u.out aG).mono ?_;rintro e w' ⟨rfl,rfl⟩));go_region;go_wp2;refine bodyPost_ret (v:=aF #[.agg #[ag 0,ag 0],aP 453 (.pointer (some aT))]) (by simp[results,results319,go_sem]) rfl ⟨rfl,?_⟩
   first|exact below_drewN ((aQ _ _).alloc ay _) _|exact((below_drewN ((aQ _ _).alloc ay _) _).setCell aG _).setCell aG _
  |true=>
   have I:=yG t;obtain⟨d,f⟩:∃d:Nat,val b.data.toList=d:=⟨_,rfl⟩;rw[f];rw[f] at I;have u:=aA t;have B:Hid ((if true=true then(val b.data.toList:Int) else 0)=d):=by show _=_;rw[if_pos rfl,f]
   clear t f;by_cases i:d=1
   .subst i;rw[if_neg aG];go_enter func319,ntmps319;go_wp2_with(first|(go_at_call 59;refine(vM s a b _ p.out q.out m).mono ?_;rintro e w' ⟨rfl,k,rfl⟩)|(go_at_call 350;refine(rX a n _ j.out).mono ?_;rintro e w' ⟨rfl,rfl⟩)|(go_at_call 351;refine(lZ b true 1 _ u.out B.out).mono ?_;rintro e w' ⟨rfl,rfl⟩));go_region;go_wp2;refine bodyPost_ret (v:=aF #[.agg #[ag 0,ag 0],aP 453 (.pointer (some aT))]) (by simp[results,results319,go_sem]) rfl ⟨rfl,?_⟩
    first|exact below_drewN ((aQ _ _).alloc ay _) _|exact((below_drewN ((aQ _ _).alloc ay _) _).setCell aG _).setCell aG _
   .rw[if_pos ⟨rfl,i⟩];have J:((d:Int)==1)=false:=by rw[dL];omega
    clear i;by_cases x:fH n d=0
    .have e:ck n d=⟨n,d,0⟩:=by unfold ck;rw[if_pos x]
     rw[e];have C:=aA x;clear e x;go_enter func319,ntmps319;go_wp2_with(first|(go_at_call 59;refine(vM s a b _ p.out q.out m).mono ?_;rintro e w' ⟨rfl,k,rfl⟩)|(go_at_call 350;refine(rX a n _ j.out).mono ?_;rintro e w' ⟨rfl,rfl⟩)|(go_at_call 351;refine(lZ b true d _ u.out B.out).mono ?_;rintro e w' ⟨rfl,rfl⟩)|(go_at_call 253;refine(OT aB aS aZ _ _ _ aa aa aa aa ?_ C.out).mono ?_;exact(h.alloc _).drewN _;rintro e w' ⟨rfl,K,rfl⟩));refine bodyPost_ret (v:=aF #[.agg #[ag n,ag d],aU]) (by simp[results,results319,go_sem]) rfl ⟨rfl,?_⟩
     first|exact below_drewN ((aQ _ _).alloc ay _) _|exact((below_drewN ((aQ _ _).alloc ay _) _).setCell aG _).setCell aG _
    .have y:fH n d=2\/fH n d=3:=by rcases gZ n d with e|e|e<;>simp_all
     have e:ck n d=⟨0,0,fH n d⟩:=by unfold ck;rw[if_neg x]
     obtain⟨F,D⟩:=jk aB aS aZ y;rw[e];simp only;rw[a19 aT aB aS aZ (show fH n d≠1 by omega),D];have C:=aA D;clear e x y D;go_enter func319,ntmps319;go_wp2_with(first|(go_at_call 59;refine(vM s a b _ p.out q.out m).mono ?_;rintro e w' ⟨rfl,k,rfl⟩)|(go_at_call 350;refine(rX a n _ j.out).mono ?_;rintro e w' ⟨rfl,rfl⟩)|(go_at_call 351;refine(lZ b true d _ u.out B.out).mono ?_;rintro e w' ⟨rfl,rfl⟩)|(go_at_call 253;refine(OU aB aS aZ _ _ F _ aa aa aa aa ?_ C.out).mono ?_;exact(h.alloc _).drewN _;rintro e w' ⟨rfl,K,rfl⟩));refine bodyPost_ret (v:=aF #[.agg #[ag 0,ag 0],aP 453 (.pointer (some F))]) (by simp[results,results319,go_sem]) rfl ⟨rfl,?_⟩
     first|exact below_drewN ((aQ _ _).alloc ay _) _|exact((below_drewN ((aQ _ _).alloc ay _) _).setCell aG _).setCell aG _
theorem wT (aT aB aS aZ:Addr)(s:aM)(w:ah)(h:E3 aB aS aZ w)(a:w.cell? (aH 1 0)=some (aP 453 (.pointer (some aT))))(d:s.size<=9223372036854775807):
  aJ 319 #[ak s] w λe w'=>e=ax (aF #[.agg #[ag (rd s.data.toList).n,ag (rd s.data.toList).d],Sk aT aB aS aZ (rd s.data.toList).c])/\aD w w':=by
 cases c:behind 47 s.data.toList with
 |none=>exact Y3 aT aB aS aZ s w h a c
 |some b=>exact Y4 aT aB aS aZ s ⟨(ahead 47 s.data.toList).toArray⟩ ⟨b.toArray⟩ w h a (by rw[c]) rfl d
theorem ownsRow_below {w w':ah}{a:Nat}{e:TypeId}{b n:Nat}{v:au}{i:List au}(h:w.ownsRow a e b v n i)(k:aD w w'):w'.ownsRow a e b v n i:=by
 obtain⟨l,c⟩:=h;refine⟨l,?_⟩;rcases c with c|⟨g,d,f,m,o,j,p⟩
 .exact .inl c
 .exact .inr ⟨g,d,f,m,o,(k.block g (dZ.1 j).1).trans j,p⟩
theorem vN {w:ah}{b:Nat}{e:TypeId}{c n:Nat}{v:au}{f:List au}(h:w.ownsRow b e c v (n+1) f):∃g a,v=aj (some ⟨g,0,none⟩) (n+1) a/\b<=g/\g<w.heap.size/\n+1<=a/\a<=maxLen/\∀j u,f[j]? =some u->w.cell? (aH g j)=some u:=by
 obtain⟨t,i⟩:=h;rcases i with⟨_,i⟩|⟨g,a,d,l,m,k,o,p,x,q⟩
 .omega
 .refine⟨g,a,l,m,(dZ.1 k).1,o,p,λj u r=>?_⟩;rw[<- q] at r;have s:d[j]? =some u:=by grind
  simp[World.cell?,k,s]
theorem gy.grown {w w':ah}{R:Nat}{cs:Array au}{t:TypeId}{a:Option Nat}(h:gy w R cs t)(b:w.grownBy w' a)(c:a≠some R):gy w' R cs t:=⟨(b.block R h.lt (λe=>c e.symm)).trans h.h⟩
theorem Tn {w:ah}{a:Nat}{e:TypeId}{b n:Nat}{v:au}{d:List au}(h:w.ownsRow a e b v n d):∀k,v.ownBlock=some k->a<=k:=by
 obtain⟨_,f⟩:=h;rcases f with⟨rfl,_⟩|⟨g,i,j,rfl,l,_⟩
 .intro k c;cases c
 .intro k c;simp only[Value.ownBlock] at c;cases c;exact l
theorem Fy:(prog.info? 163).map (λi=>(i.zero,i.size,i.bytes))=some (some (.agg #[ag 0,ag 0]),2,16):=az
theorem a5R {x y:Int}:∀u∈[Value.int .i64 x,ag y],u.oneCell'=true:=λu a=>by
 simp at a;rcases a with rfl|rfl<;>rfl
theorem LW {w:ah}{x y:au}{t:TypeId}{B:Nat}(b:B=w.heap.size):∀(j:Nat) (u:au),[x,y][j]? =some u->(w.alloc (ai #[x,y] t)).cell? ((⟨B,0,none⟩:Addr).add j)=some u:=λj u a=>by
 match j,a with
 |0,a=>simp at a;subst a;exact dG b rfl
 |1,a=>simp at a;subst a;exact dG b rfl
 |j+2,a=>simp at a
theorem aey (F:Nat)(P:∀(H:Array au) (w:ah),Sem.run prog (callFunc F H) w=.ok (.enter F H) w)(b o y B:Nat)(z A:aM)(f h:Fr)(r:Mv)(W:ah)(I:W.cell? (aH B 0)=some (.func (.func F) #[] #[]))(Q:W.cell? (aH b o)=some (ak z))(J:W.cell? (aH b (o+1))=some (ak A))
  (S:∀V,aD W V->aJ 319 #[ak z] V λe w'=>e=ax (aF #[.agg #[ag f.n,ag f.d],aU])/\aD V w')
  (T:∀V,aD W V->aJ 319 #[ak A] V λe w'=>e=ax (aF #[.agg #[ag h.n,ag h.d],aU])/\aD V w')
  (C:∀V g c,aD W V->V.cell? (aH g 0)=some (ag f.n)->V.cell? (aH g 1)=some (ag f.d)->V.cell? (aH g 2)=some (ag h.n)->V.cell? (aH g 3)=some (ag h.d)->aJ F #[aj (some ⟨g,0,none⟩) 2 c] V λe w'=>e=ax (mv r)/\aD V w'):
  aJ 367 #[aj (some ⟨b,o,none⟩) 2 y,aI B] W λe w'=>e=ax (aF #[mv r,aU])/\aD W w':=by
 have K:=(aQ W.heap.size W).alloc ay (ai zA 165);have U:=gy.new W zA 165;have g1:=λo=>aL o Q;obtain⟨L,M,s,t,u⟩:=info_parts Fy;go_enter func367,ntmps367;go_wp2;refine wp_loop_rounds 3 ?_;rw[rounds_succ];go_wp2_with(first|(at_builtin;refine wpList_append_own_at _ rfl _ _ 402 rfl (W.heap.size+1) 163 L (.agg #[ag 0,ag 0]) 2 16 underlying402 M s t u rfl aC (aj none 0 0) 0 [] rfl X ⟨N.heap.size+1,0,none⟩ 1 1 [ag f.n,ag f.d] rfl rfl (LW aG) a5R (by unfold maxLen;omega) aa aX ?_;intro Y V1 l a _ Z;have D:=((L1.alloc aa _).alloc aX _).grown a aX (λk e=>by simp[Value.ownBlock] at e);have B2:=((B1.alloc _).alloc _).grown a (by simp[Value.ownBlock]);have z1:=a.size;simp only[dK] at z1;have g2:=(D.cell (p:=⟨b,o+1,none⟩) (aR J)).trans J)|(go_at_call_of 319 z;refine(S _ K).mono ?_;rintro e N ⟨rfl,m⟩;have Sl:=m.size;simp only[dK] at Sl;have L1:=(K.trans (m.mono aG));have B1:=U.below m ay;have X:((N.alloc (ai #[ag f.n,ag f.d] 163)).alloc (ai #[ag f.n,ag f.d] 163)).ownsRow (W.heap.size+1) 163 2 (aj none 0 0) 0 []:=gp _ _ _ _));rw[rounds_succ];go_wp2_with(first|(at_builtin;refine wpList_append_own_at _ rfl _ _ 402 rfl (W.heap.size+1) 163 L (.agg #[ag 0,ag 0]) 2 16 underlying402 M s t u rfl aC Y 1 _ rfl O ⟨w2.heap.size+1,0,none⟩ 1 1 [ag h.n,ag h.d] rfl rfl (LW aG) a5R (by unfold maxLen;omega) aa aX ?_;intro v2 V2 n d _ a4;have x:=Tn O;have E:=((L3.alloc aa _).alloc aX _).grown d aX (λk e=>by have:=x k e;omega);have B4:=((B3.alloc _).alloc _).grown d (λe=>by have:=x _ e;omega);obtain⟨g,c2,rfl,a5,a6,a7,a8,i⟩:=vN n;have gB:=(E.cell (p:=⟨B,0,none⟩) (aR I)).trans I)|(go_at_call_of 319 A;refine(T _ D).mono ?_;rintro e w2 ⟨rfl,j⟩;have a9:=j.size;have L3:=D.trans (j.mono aa);have B3:=B2.below j ay;have O:=((ownsRow_below l j).alloc (ai #[ag h.n,ag h.d] 163)).alloc (ai #[ag h.n,ag h.d] 163)))
 rw[rounds_succ];go_wp2_with((refine(C _ g c2 E (i 0 _ rfl) (i 1 _ rfl) (i 2 _ rfl) (i 3 _ rfl)).mono ?_;rintro e w5 ⟨rfl,q⟩;have b0:=q.size;have B5:=B4.below q ay;obtain⟨uT,JS,uU,JU,uV,JV,uX,JW,zi,O9,zl,Oa,zm,Ob,zo,Oc,zq,Od,zu,Oe,mq,vH,mD,vI⟩:=B5.six));refine bodyPost_ret (v:=aF #[mv r,aU]) (by simp[results,results367,go_sem,uT,uU,uV,uX,zi,zl,zm,zo,zq,zu,mq,mD]) rfl ⟨rfl,?_⟩;exact cZ (R:=W.heap.size) ay (mL r) 0 (E.trans (q.mono aa))
def Mv.shift (x y:Fr):Mv:=⟨.whole 1,.whole 0,.whole 0,.whole 1,x,y⟩
def Mv.scale (x y:Fr):Mv:=⟨x,.whole 0,.whole 0,y,.whole 0,.whole 0⟩
def Mv.skew (x:Fr):Mv:=⟨.whole 1,.whole 0,x,.whole 1,.whole 0,.whole 0⟩
def Mv.turn (c s:Int):Mv:=⟨.whole c,.whole s,.whole (-s),.whole c,.whole 0,.whole 0⟩
theorem Y5 (g c:Nat)(a b:Fr)(W:ah)(i:W.cell? (aH g 0)=some (ag a.n))(j:W.cell? (aH g 1)=some (ag a.d))(k:W.cell? (aH g 2)=some (ag b.n))(l:W.cell? (aH g 3)=some (ag b.d)):
  aJ 355 #[aj (some ⟨g,0,none⟩) 2 c] W λe w'=>e=ax (mv (Mv.shift a b))/\aD W w':=by
 have m:=tV;have n:=aR i;simp only at n;have q:=(aQ W.heap.size W).alloc ay (ai zA 165);have r:=gy.new W zA 165;go_enter func355,ntmps355;go_wp2_with(go_at_call 78;refine(m _).mono ?_;rintro e h ⟨rfl,d⟩;have f:=q.trans (d.mono aG);have s:=d.size;simp only[dK] at s;have t:=r.below d ay;have I:¬h.heap.size=W.heap.size:=aa;have J:¬W.heap.size=h.heap.size:=aa;have K:¬g=h.heap.size:=aa;have L:¬h.heap.size=g:=aa;dsimp only[Mv.one,Fr.whole];have M:=λo=>aL o ((f.cell (p:=⟨g,0,none⟩) (aR i)).trans i);have N:=λo=>aL o ((f.cell (p:=⟨g,1,none⟩) (aR j)).trans j);have O:=λo=>aL o ((f.cell (p:=⟨g,2,none⟩) (aR k)).trans k);have P:=λo=>aL o ((f.cell (p:=⟨g,3,none⟩) (aR l)).trans l);obtain⟨u,Q,w,S,x,T,y,U,z,V,A,X,B,Y,C,Z,D,Od,E,Oe,F,vH,H,vI⟩:=t.a0S);go_region;go_wp2;refine bodyPost_ret (v:=mv (Mv.shift a b)) (by simp[results,results355,go_sem,Mv.shift,Fr.whole,u,w,x,y,z,A,B,C,D,E,F,H]) rfl ⟨rfl,?_⟩;exact below_drewN (cZ (R:=W.heap.size) ay [ag 1,ag 1,ag 0,ag 1,ag 0,ag 1,ag 1,ag 1,ag a.n,ag a.d,ag b.n,ag b.d] 0 (f.alloc aa (ai #[ag 1,ag 1,ag 0,ag 1,ag 0,ag 1,ag 1,ag 1,ag a.n,ag a.d,ag b.n,ag b.d] 165))) 1
theorem Y6 (g c:Nat)(a b:Fr)(W:ah)(i:W.cell? (aH g 0)=some (ag a.n))(j:W.cell? (aH g 1)=some (ag a.d))(k:W.cell? (aH g 2)=some (ag b.n))(l:W.cell? (aH g 3)=some (ag b.d)):
  aJ 356 #[aj (some ⟨g,0,none⟩) 2 c] W λe w'=>e=ax (mv (Mv.scale a b))/\aD W w':=by
 have m:=tV;have n:=aR i;simp only at n;have q:=(aQ W.heap.size W).alloc ay (ai zA 165);have r:=gy.new W zA 165;go_enter func356,ntmps356;go_wp2_with(go_at_call 78;refine(m _).mono ?_;rintro e h ⟨rfl,d⟩;have f:=q.trans (d.mono aG);have s:=d.size;simp only[dK] at s;have t:=r.below d ay;have I:¬h.heap.size=W.heap.size:=aa;have J:¬W.heap.size=h.heap.size:=aa;have K:¬g=h.heap.size:=aa;have L:¬h.heap.size=g:=aa;dsimp only[Mv.one,Fr.whole];have M:=λo=>aL o ((f.cell (p:=⟨g,0,none⟩) (aR i)).trans i);have N:=λo=>aL o ((f.cell (p:=⟨g,1,none⟩) (aR j)).trans j);have O:=λo=>aL o ((f.cell (p:=⟨g,2,none⟩) (aR k)).trans k);have P:=λo=>aL o ((f.cell (p:=⟨g,3,none⟩) (aR l)).trans l);obtain⟨u,Q,w,S,x,T,y,U,z,V,A,X,B,Y,C,Z,D,Od,E,Oe,F,vH,H,vI⟩:=t.a0S);go_region;go_wp2;refine bodyPost_ret (v:=mv (Mv.scale a b)) (by simp[results,results356,go_sem,Mv.scale,Fr.whole,u,w,x,y,z,A,B,C,D,E,F,H]) rfl ⟨rfl,?_⟩;exact below_drewN (cZ (R:=W.heap.size) ay [ag a.n,ag a.d,ag 0,ag 1,ag 0,ag 1,ag b.n,ag b.d,ag 0,ag 1,ag 0,ag 1] 0 (f.alloc aa (ai #[ag a.n,ag a.d,ag 0,ag 1,ag 0,ag 1,ag b.n,ag b.d,ag 0,ag 1,ag 0,ag 1] 165))) 1
attribute [local go_sem] jl
theorem Bn (s:aM)(hs:s.size<4294967281)(W:ah):
  aJ 291 #[ak s,ak ⟨#[32]⟩] W λe w'=>e=ax (aj (some ⟨W.heap.size,0,none⟩) (Lib.countB s ⟨#[32]⟩+1) (Lib.countB s ⟨#[32]⟩+1))/\w'=W.alloc (ai ((Lib.splitB ⟨#[32]⟩ 0 (Lib.countB s ⟨#[32]⟩) s).map Value.string).toArray 9):=by
 have d:1<=(⟨#[32]⟩:aM).size:=aC;have g:=Lib.countB_le ⟨#[32]⟩ d s.size s ay;have a:=Lib.splitB_all ⟨#[32]⟩ d 0 _ s rfl;have c:=Any.strings_genSplit_core Tryz.a5L az s ⟨#[32]⟩ 0 (-1) (Lib.countB s ⟨#[32]⟩+1) W hs d (bf _)
  (λx c _=>(Any.strings_Index_one Tryz.a5H x 32 _).mono λe w' ⟨f,b⟩=>⟨by rw[f,<- Lib.index_one],b⟩)
  ((Any.strings_Count_one Tryz.a5J s 32 W).mono λe w' ⟨f,b⟩=>⟨by rw[f];show _=Ending.returned (Value.int .i64 ((Lib.count s.data.toList [32]:Nat):Int));rw[Lib.count_one];rfl,b⟩)
  aC aC (by rw[if_pos aC];omega)
 rw[Nat.add_sub_cancel,a] at c;have h:Lib.cellsOf (Lib.splitB ⟨#[32]⟩ 0 (Lib.countB s ⟨#[32]⟩) s) (Lib.countB s ⟨#[32]⟩+1)=((Lib.splitB ⟨#[32]⟩ 0 (Lib.countB s ⟨#[32]⟩) s).map Value.string).toArray:=by rw[<- a];exact Lib.cellsOf_full _
 rw[h] at c;go_enter func291,ntmps291;go_wp2_with(go_at_call 336;refine c.mono ?_;rintro e w' ⟨rfl,b⟩;rw[b]);go_ret;exact⟨rfl,rfl⟩
theorem VP {R:Nat}:∀(vs:List au) (o:Nat) (w:ah) (j:Nat),j<o->(put w R o vs).cell? (aH R j)=w.cell? (aH R j)
 |[],_,_,_,_=>rfl
 |v::vs,o,w,j,h=>(VP vs (o+1) _ j aa).trans (World.cell?_setCell_other _ _ _ _ (by intro e;have:=congrArg Addr.off e;simp only at this;omega))
theorem LX {R:Nat}:∀(vs:List au) (o:Nat) (w:ah),(∀i,i<vs.length->(w.cell? (aH R (o+i))).isSome=true)->∀j u,vs[j]? =some u->(put w R o vs).cell? (aH R (o+j))=some u
 |[],_,_,_,j,u,h=>by simp at h
 |v::vs,o,w,a,0,u,h=>by
  simp at h;subst h;exact(VP vs (o+1) _ o aa).trans (iA _ _ _ (a 0 aG))
 |v::vs,o,w,a,j+1,u,h=>by
  have:=LX vs (o+1) (w.setCell ⟨R,o,none⟩ v) (λi b=>by
   rw[World.cell?_setCell_other _ _ _ _ (by intro e;have:=congrArg Addr.off e;simp only at this;omega)];have:=a (i+1) aX;rwa[show o+(i+1)=o+1+i by omega] at this) j u (by simpa using h)
  rw[show o+(j+1)=o+1+j by omega];exact this
theorem vO {B:Nat}{w u:ah}(h:Below B w.drew u):Below B w u:=⟨h.os,h.tape,h.output,h.size,h.block⟩
theorem VQ {cs:List au}{w:ah}{t:TypeId}:∀j u,cs[j]? =some u->(w.alloc (ai cs.toArray t)).cell? ⟨w.heap.size,j,none⟩=some u:=λj u h=>dG rfl (by simpa using h)
theorem OV {w:ah}{R:Nat}{cs:Array au}{t:TypeId}(h:gy w R cs t):∀i,i<cs.size->(w.cell? (aH R (0+i))).isSome=true:=λi a=>by
 rw[h.cell (0+i) cs[i] (by simp[a])];rfl
theorem LY {w u:ah}{Q:Nat}{a b:au}(c:aD w u)(h:w.cell? (aH Q 0)=some a/\w.cell? (aH Q 1)=some b):u.cell? (aH Q 0)=some a/\u.cell? (aH Q 1)=some b:=⟨(c.cell (p:=⟨Q,0,none⟩) (aR h.1)).trans h.1,(c.cell (p:=⟨Q,1,none⟩) (aR h.2)).trans h.2⟩
theorem wU {w u:ah}{cs:Array au}{t:TypeId}(a:Below (w.alloc (ai cs t)).drew.heap.size (w.alloc (ai cs t)).drew u):gy u w.heap.size cs t:=gy.below (w:=(w.alloc (ai cs t)).drew) ⟨(gy.new w cs t).h⟩ a ay
theorem a1b:(prog.info? 165).map (λi=>(i.zero,i.size,i.bytes))=some (some (.agg zA),12,96):=az
theorem a94 {m:Mv}:∀u∈[Value.int .i64 m.a.n,ag m.a.d,ag m.b.n,ag m.b.d,ag m.c.n,ag m.c.d,ag m.d.n,ag m.d.d,ag m.e.n,ag m.e.d,ag m.f.n,ag m.f.d],u.oneCell'=true:=λu a=>by
 simp at a;rcases a with rfl|rfl|rfl|rfl|rfl|rfl|rfl|rfl|rfl|rfl|rfl|rfl<;>rfl
end
section
open Go.RowKit Go.Shelf
attribute [local go_sem] Oper.semAt_some
def lN (n j:Nat):List Nat:=(List.range (n-1-j)).map (λk=>n-1-k)
theorem tY {n j:Nat}(h:j<n):lN n j++[j]=(List.range (n-j)).map (λk=>n-1-k):=by
 unfold lN;rw[show n-j=n-1-j+1 by omega,List.range_succ,iG];simp;omega
theorem OX (n j:Nat):(lN n j).length=n-1-j:=by simp[lN]
def dw (n:Nat):List Nat:=(List.range n).map (λk=>n-1-k)
theorem LZ {n j:Nat}(h:j+1<n):lN n (j+1)++[j+1]=lN n j:=by
 rw[tY h,lN,show n-(j+1)=n-1-j by omega]
theorem M0 {n:Nat}(h:0<n):lN n 0++[0]=dw n:=by rw[tY h,dw];rfl
theorem Fz {n j:Nat}(h:j<n):lN n j++[j]<+:dw n:=by
 rw[tY h,dw];refine List.IsPrefix.map _ ?_;refine⟨(List.range j).map (λk=>(n-j)+k),?_⟩;rw[show List.range n=List.range ((n-j)+j) by congr 1;omega,List.range_add]
abbrev a95 (m:Mv)(j:Nat):Array au:=#[ag j,.agg (mA m)]
theorem zP (v:au)(a:Option Addr)(n c:Nat)(b:v=aj a n c)(W:ah):aJ 263 #[v] W λe w'=>e=ax (.func (.func 325) #[] #[aI W.heap.size])/\w'=W.alloc (ai #[v] 341):=by
 subst b;go_enter func263,ntmps263;go_wp2;go_ret;exact⟨rfl,rfl⟩
end
section
open Go.RowKit Go.Shelf
attribute [local go_sem] Oper.semAt_some
structure jc (E A n₀:Nat)(W W':ah):Prop where
 block:∀k,k<n₀->k≠E->k≠A->W'.heap[k]? =W.heap[k]?
theorem jc.refl (E A a:Nat)(W:ah):jc E A a W W:=⟨λ_ _ _ _=>rfl⟩
theorem jc.trans {E A a:Nat}{X Y Z:ah}(h:jc E A a X Y)(k:jc E A a Y Z):jc E A a X Z:=⟨λi b c d=>(k.block i b c d).trans (h.block i b c d)⟩
theorem jc.of_below {E A a:Nat}{X Y:ah}(h:aD X Y)(b:a<=X.heap.size):jc E A a X Y:=⟨λi c _ _=>h.block i aa⟩
theorem jc.aiG {E A a:Nat}{X Y:ah}(h:jc E A a X Y)(o:Nat)(v:au):jc E A a X (Y.setCell ⟨E,o,none⟩ v):=⟨λi c b d=>(bY _ _ _ i b).trans (h.block i c b d)⟩
theorem jc.aez {E A a:Nat}{X:ah}:∀(vs:List au) (o:Nat) {Y:ah},jc E A a X Y->jc E A a X (put Y A o vs)
 |[],_,_,h=>h
 |_::vs,o,_,h=>jc.aez vs (o+1) ⟨λi c d b=>(bY _ _ _ i b).trans (h.block i c d b)⟩
theorem jc.put {E A a:Nat}(W:ah)(l:Nat)(b:Obj)(c:a<=l):jc E A a W (W.putObj l b):=⟨λi d _ _=>nH aa⟩
theorem pJ {a:Type}{o:Option a}{v:a}(h:o=some v):o.isSome=true:=by rw[h];rfl
theorem pK:∀(vs:List au) (o R:Nat) (W:ah),KeepsOthers W (put W R o vs)
 |[],_,_,W=>KeepsOthers.refl W
 |_::vs,o,R,W=>(gH W _ _).trans (pK vs (o+1) R _)
def eD (W:ah)(R:Nat)(vs:List au):Prop:=vs.length=12/\(∀i u,vs[i]? =some u->W.cell? (aH R i)=some u)/\(∀i,i<12->W.frozen? ⟨R,i,none⟩=false)
theorem eD.twelve {w:ah}{R:Nat}{a0 a1 a2 a3 a b c d e f g i:au}(h:eD w R [a0,a1,a2,a3,a,b,c,d,e,f,g,i]):w.cell? (aH R 0)=some a0/\w.cell? (aH R 1)=some a1/\w.cell? (aH R 2)=some a2/\w.cell? (aH R 3)=some a3/\w.cell? (aH R 4)=some a/\w.cell? (aH R 5)=some b/\w.cell? (aH R 6)=some c/\w.cell? (aH R 7)=some d/\w.cell? (aH R 8)=some e/\w.cell? (aH R 9)=some f/\w.cell? (aH R 10)=some g/\w.cell? (aH R 11)=some i:=⟨h.2.1 0 _ rfl,h.2.1 1 _ rfl,h.2.1 2 _ rfl,h.2.1 3 _ rfl,h.2.1 4 _ rfl,h.2.1 5 _ rfl,h.2.1 6 _ rfl,h.2.1 7 _ rfl,h.2.1 8 _ rfl,h.2.1 9 _ rfl,h.2.1 10 _ rfl,h.2.1 11 _ rfl⟩
theorem eD.six {w:ah}{R:Nat}{a0 a1 a2 a3 a b c d e f g i:au}(h:eD w R [a0,a1,a2,a3,a,b,c,d,e,f,g,i]):w.cell? (aH R 0)=some a0/\w.frozen? ⟨R,0,none⟩=false/\w.cell? (aH R 1)=some a1/\w.frozen? ⟨R,1,none⟩=false/\w.cell? (aH R 2)=some a2/\w.frozen? ⟨R,2,none⟩=false/\w.cell? (aH R 3)=some a3/\w.frozen? ⟨R,3,none⟩=false/\w.cell? (aH R 4)=some a/\w.frozen? ⟨R,4,none⟩=false/\w.cell? (aH R 5)=some b/\w.frozen? ⟨R,5,none⟩=false/\w.cell? (aH R 6)=some c/\w.frozen? ⟨R,6,none⟩=false/\w.cell? (aH R 7)=some d/\w.frozen? ⟨R,7,none⟩=false/\w.cell? (aH R 8)=some e/\w.frozen? ⟨R,8,none⟩=false/\w.cell? (aH R 9)=some f/\w.frozen? ⟨R,9,none⟩=false/\w.cell? (aH R 10)=some g/\w.frozen? ⟨R,10,none⟩=false/\w.cell? (aH R 11)=some i/\w.frozen? ⟨R,11,none⟩=false:=⟨h.2.1 0 _ rfl,h.2.2 0 aa,h.2.1 1 _ rfl,h.2.2 1 aa,h.2.1 2 _ rfl,h.2.2 2 aa,h.2.1 3 _ rfl,h.2.2 3 aa,h.2.1 4 _ rfl,h.2.2 4 aa,h.2.1 5 _ rfl,h.2.2 5 aa,h.2.1 6 _ rfl,h.2.2 6 aa,h.2.1 7 _ rfl,h.2.2 7 aa,h.2.1 8 _ rfl,h.2.2 8 aa,h.2.1 9 _ rfl,h.2.2 9 aa,h.2.1 10 _ rfl,h.2.2 10 aa,h.2.1 11 _ rfl,h.2.2 11 aa⟩
theorem eD.yH {W:ah}{R:Nat}{vs:List au}{t:TypeId}(h:gy W R vs.toArray t)(a:vs.length=12):eD W R vs:=
 ⟨a,λi u b=>h.cell i u (by simpa using b),λi c=>h.eY i vs[i] (by simp[a▸c])⟩
theorem nM {p:Addr}:∀(vs:List au) (o R:Nat) (W:ah),(put W R o vs).frozen? p=W.frozen? p
 |[],_,_,_=>rfl
 |_::vs,o,R,_=>(nM vs (o+1) R _).trans (jK _ _ _ _)
theorem eD.put {W:ah}{R:Nat}{vs us:List au}(h:eD W R vs)(b:us.length=12):eD (put W R 0 us) R us:=by
 refine⟨b,λi u c=>?_,λi a=>(nM us 0 R W).trans (h.2.2 i a)⟩;have:=LX (R:=R) us 0 W (λi a=>by rw[fZ,h.2.1 i (vs[i]'(by rw[h.1];omega)) aG];rfl) i u c;rwa[fZ] at this
theorem eD.nN {W:ah}{R E o:Nat}{vs:List au}{v:au}(h:eD W R vs)(hE:R≠E):eD (W.setCell ⟨E,o,none⟩ v) R vs:=
 ⟨h.1,λi u a=>(bN _ _ _ _ (λe=>hE e.symm)).trans (h.2.1 i u a),λi b=>(jK _ _ _ _).trans (h.2.2 i b)⟩
theorem eD.JX {W:ah}{R R':Nat}{vs us:List au}(h:eD W R vs)(hE:R≠R'):eD (Go.Proofs.YtbkjmamcnflncaaGreatDoor.put W R' 0 us) R vs:=
 ⟨h.1,λi u a=>(gQ (p:=⟨R,i,none⟩) hE us 0 W).trans (h.2.1 i u a),λi b=>(nM us 0 R' W).trans (h.2.2 i b)⟩
theorem eD.kept {W b:ah}{R:Nat}{vs:List au}{a:Option Nat}(h:eD W R vs)(c:W.grownBy b a)(d:∀r,a=some r->∃o:Obj,W.heap[r]? =some o/\o.isCells=false):eD b R vs:=
 ⟨h.1,λi u e=>cell_kept (h.2.1 i u e) c d,λi f=>by
  have:=h.2.1 i (vs[i]'(by rw[h.1];omega)) aG;exact(frozen_kept this c d).trans (h.2.2 i f)⟩
theorem eD.below {W a:ah}{R:Nat}{vs:List au}(h:eD W R vs)(b:aD W a):eD a R vs:=
 ⟨h.1,λi u c=>(b.cell (aR (h.2.1 i u c))).trans (h.2.1 i u c),λi d=>by
  have:=h.2.1 i (vs[i]'(by rw[h.1];omega)) aG;exact(b.frozen (p:=⟨R,i,none⟩) (aR this)).trans (h.2.2 i d)⟩
end
section
open Go.RowKit Go.Shelf
set_option maxRecDepth 100000
attribute [local go_sem] Oper.semAt_some
theorem a1c (F:Fence)(n:Nat)(Q:F.fn 325)(s:F.round=none)(Z:1<=n)(l Bl g a t:Nat)(L:Nat->Mv)(m:0<a)(w:a<=1000)(Kp:ah->ah->Prop)(y:∀A,Kp A A)(z:∀A B C,Kp A B->Kp B C->Kp A C)(D:∀A B,Kp A B->B.cell? (aH Bl 0)=A.cell? (aH Bl 0))(E:∀A B,Kp A B->∀o,B.cell? (aH g o)=A.cell? (aH g o))(J M:List Nat->ah->Prop)
    (R:∀pre x W,J pre W->pre.length<a->YieldAt F (n-1) prog l #[ag (x:Nat),.agg (mA (L x))] W λe k=>
      (e=ax (.bool true)/\J (pre++[x]) k/\Kp W k)\/(e=ax (.bool false)/\M (pre++[x]) k))
    (W:ah) (H:W.cell? (aH Bl 0)=some (aj (some ⟨g,0,none⟩) a t))
    (hc:∀j,j<a->∀i u,(mL (L j))[i]? =some u->W.cell? (aH g (j*12+i))=some u) (S:J [] W):
    CallsIn F n prog 325 #[.func (.yield l) #[] #[],aI Bl] W λe k=>(∃v,e=ax v)/\
      ((∃N,N=dw a/\J N k)\/(∃pre,pre<+:dw a/\M pre k)):=by
  refine callsIn_of_wp func325 rfl Q ?_ s;simp only[ntmps325,ji,eP,iO,Nat.reduceAdd,Nat.reduceSub,jM,jL,jO,jN,gF,fV];have T:IntKind.i64.wrap ((a:Int)-1)=((a-1:Nat):Int):=by rw[i64_in aa aa];omega
  gi_wp2
  gi_loopw [3] (λi wr=>((∃j:Nat,j<a/\i=ag j/\J (lN a j) wr)\/(i=ag (-1)/\J (dw a) wr))/\Kp W wr)
    (λi _=>(intOf i+1).toNat)
  case atStart=>
    refine⟨.inl ⟨a-1,aa,?_,?_⟩,y _⟩
    . congr 1
    . rw[show lN a (a-1)=[] by simp[lN]];exact S
  case round=>
    obtain⟨c,d⟩:=hrel;rcases c with⟨j,I,rfl,f⟩|⟨rfl,f⟩
    . have cl:=(D _ _ d).trans H
      have b:=λi u h=>(E _ _ d (j*12+i)).trans (hc j I i u h);obtain⟨U,m1,m2,m3,m4,m5,m6,m7,m8,m9,V,X⟩:=And.intro (b 0 _ rfl) (And.intro (b 1 _ rfl) (And.intro (b 2 _ rfl) (And.intro (b 3 _ rfl) (And.intro (b 4 _ rfl) (And.intro (b 5 _ rfl) (And.intro (b 6 _ rfl) (And.intro (b 7 _ rfl) (And.intro (b 8 _ rfl) (And.intro (b 9 _ rfl) (And.intro (b 10 _ rfl) (b 11 _ rfl)))))))))));clear b;simp only[Nat.add_zero] at U;obtain⟨fn,O,r,P,hy,Y⟩:=R _ j wr f (by rw[OX];omega)
      gi_wp2
      refine Y.mono ?_;rintro e W3 (⟨rfl,p,K⟩|⟨rfl,q⟩)
      . gi_wp2
        go_roundw
        case rel=>
          refine⟨?_,z _ _ _ d K⟩;cases j with
          |zero=>exact .inr ⟨aG,by rw[<- M0 m];exact p⟩
          |succ j=>exact .inl ⟨j,aa,aG,by rw[<- LZ I];exact p⟩
        case measure=>simp[intOf]
      . gi_wp2
        refine bodyPost_ret (results_none rfl _ _ _) rfl ?_;exact⟨⟨_,rfl⟩,.inr ⟨_,Fz I,q⟩⟩
    . gi_wp2
      go_end0
      exact⟨⟨_,rfl⟩,.inl ⟨_,rfl,f⟩⟩
end
section
open Go.RowKit Go.Shelf
set_option maxRecDepth 100000
attribute [local go_sem] Oper.semAt_some
theorem Tp {A B:ah}(h:KeepsOthers A B):KeepsOthers A B.drew:=⟨h.size,h.same⟩
theorem eD.drew {W:ah}{R:Nat}{vs:List au}(h:eD W R vs):eD W.drew R vs:=h
theorem JY {W:ah}{p:Addr}{v:au}(h:W.cell? p=some v):W.drew.cell? p=some v:=h
theorem a1d (aB:Addr)(s:aM)(M:Nat->Mv)(n:Nat)(a:List Nat->Mv)(f:List Nat->Prop)(c2:f [])(f6:∀p q,f (p++q)->f p)(W:ah)(hn:0<n)(f7:n<=1000)(ha:a []=.one)
    (HL:∀V,aD W V->aJ 262 #[ak s] V λe w'=>(∃g m,e=ax (aF #[aj (some ⟨g,0,none⟩) n m,aU])/\g<w'.heap.size/\∀j,j<n->∀i u,(mL (M j))[i]? =some u->w'.cell? (aH g (j*12+i))=some u)/\aD V w')
    (HT:∀pre x,f pre->f (pre++[x])->∀V,aD W V->aJ 195 #[mv (a pre),mv (M x)] V λe w'=>e=ax (aF #[mv (a (pre++[x])),aU])/\aD V w')
    (HN:∀pre x,f pre->¬f (pre++[x])->∀V,aD W V->aJ 195 #[mv (a pre),mv (M x)] V λe w'=>e=ax (aF #[mv .zero,aP 453 (.pointer (some aB))])/\aD V w'):
    CallsIn Fence.wide 9 prog 194 #[ak s] W λe w'=>(f (dw n)/\e=ax (aF #[mv (a (dw n)),aU])\/¬f (dw n)/\e=ax (aF #[mv .zero,aP 453 (.pointer (some aB))]))/\aD W w':=by
  have HO:=tV;have HB:=zP;have L0:=((aQ W.heap.size W).alloc ay (ai zA 165)).alloc aG (ai #[aU] 25);have R0:gy ((W.alloc (ai zA 165)).alloc (ai #[aU] 25)) W.heap.size zA 165:=(gy.new W _ _).alloc _;have Q0:=gy.new (W.alloc (ai zA 165)) #[aU] 25;rw[dK] at Q0;refine callsIn_of_wp_marks func194 rfl trivial ?_ rfl;simp only[ntmps194,ji,eP,iO,Nat.reduceAdd,Nat.reduceSub,jM,jL,jO,jN,gF,fV]
  gi_wp2_with (first|(refine⟨trivial,?_⟩;gi_at_call 263;refine(callsIn_wide.2 (HB _ _ _ _ rfl _)).mono ?_;rintro e w' ⟨rfl,rfl⟩)|(refine⟨trivial,?_⟩;gi_at_call 78;refine(callsIn_wide.2 (HO _)).mono ?_;rintro e d ⟨rfl,H⟩;dsimp only[Mv.one,Fr.whole])|(refine⟨trivial,?_⟩;gi_at_call 262;refine(callsIn_wide.2 (HL _ L0)).mono ?_;rintro e k ⟨⟨g,m,rfl,z,E⟩,a5⟩))
  have Sl:=a5.size;simp only[dK] at Sl;have f8:=H.size;simp only[dK] at f8;have e1:(k.alloc (ai #[aU] 25)).heap.size=k.heap.size+1:=aG;have E2:=(gy.new k #[aU] 25).below H ay;have R2:=((R0.below a5 ay).alloc (ai #[aU] 25)).below H ay;have Q2:=((Q0.below a5 ay).alloc (ai #[aU] 25)).below H ay;have L2:=((L0.trans (a5.mono aX)).alloc aa (ai #[aU] 25)).trans (H.mono aX);have c3:∀j,j<n->∀i u,(mL (M j))[i]? =some u->d.cell? (aH g (j*12+i))=some u:=λj hj i u hu=>(H.cell (p:=⟨g,j*12+i,none⟩) aX).trans (aL _ (E j hj i u hu));obtain⟨U,y⟩:∃U,(d.alloc (ai oA 165)).alloc (ai #[aj (some ⟨g,0,none⟩) n m] 341)=U:=⟨_,rfl⟩;have k8:U.heap.size=d.heap.size+2:=by rw[<- y];simp
  have A3:gy U d.heap.size oA 165:=by rw[<- y];exact(gy.new d _ _).alloc _
  have C3:U.cell? ⟨d.heap.size+1,0,none⟩=some (aj (some ⟨g,0,none⟩) n m):=by rw[<- y];exact dG aG rfl
  have E3:gy U k.heap.size #[aU] 25:=by rw[<- y];exact(E2.alloc _).alloc _
  have R3:gy U W.heap.size zA 165:=by rw[<- y];exact(R2.alloc _).alloc _
  have Q3:gy U (W.heap.size+1) #[aU] 25:=by rw[<- y];exact(Q2.alloc _).alloc _
  have L3:aD W U:=by rw[<- y];exact(L2.alloc aa _).alloc aX _
  have f9:∀j,j<n->∀i u,(mL (M j))[i]? =some u->U.cell? (aH g (j*12+i))=some u:=λj hj i u hu=>by rw[<- y];exact aL _ (aL _ (c3 j hj i u hu))
  rw[y];clear y L2 c3 E R0 Q0 E2 R2 Q2;refine wpIn_rangeFunc_ownH rfl aa (gf:=325) (lb:=#[.pointer (some ⟨d.heap.size+1,0,none⟩)]) rfl trivial (enters_of func325 az rfl)
    (encs:=λx:Nat=>a95 (M x) x) (Kp:=jc k.heap.size d.heap.size U.heap.size) (S:=λys=>ys=dw n) (Sp:=λpre=>pre<+:dw n) (N:=n) (w0:=U)
    (λl J Jx X hX _ _ hY h0=>a1c Fence.wide _ trivial rfl aa l (d.heap.size+1) g n m M hn f7 _ (jc.refl _ _ _) (λ_ _ _=>jc.trans)
      (λA B h=>qg (h.block (d.heap.size+1) aa aa aa)) (λA B h o=>qg (h.block g aa aa aa)) J Jx hY X ((hX.cell (p:=⟨d.heap.size+1,0,none⟩) fJ).trans C3) (λj hj i u hu=>(hX.cell (p:=⟨g,j*12+i,none⟩) fJ).trans (f9 j hj i u hu)) h0)
    jc.trans (λX l o o' hl _ _ _=>jc.put X l o' hl) (aQ _ _) (λ_=>rfl)
    (λpre X=>(f pre/\eD X d.heap.size (mL (a pre))/\(X.cell? ⟨k.heap.size,0,none⟩=some aU/\X.frozen? ⟨k.heap.size,0,none⟩=false)/\eD X W.heap.size zL/\(X.cell? ⟨W.heap.size+1,0,none⟩=some aU/\X.frozen? ⟨W.heap.size+1,0,none⟩=false)/\U.heap.size<=X.heap.size)/\aD W X)
    (λc pre X=>(c=.ret/\¬f pre/\eD X W.heap.size zL/\X.cell? ⟨W.heap.size+1,0,none⟩=some (aP 453 (.pointer (some aB))))/\aD W X)
    (OwnFrom.and (Own.from (λpre A B c5 t z C=>⟨t.1,t.2.1.kept z C,⟨cell_kept t.2.2.1.1 z C,(frozen_kept t.2.2.1.1 z C).trans t.2.2.1.2⟩,t.2.2.2.1.kept z C,⟨cell_kept t.2.2.2.2.1.1 z C,(frozen_kept t.2.2.2.2.1.1 z C).trans t.2.2.2.2.1.2⟩,bu t.2.2.2.2.2 z.size⟩) _) (ownFrom_below ay aa))
    (λc=>OwnFrom.and (Own.from (λs A B c5 t z C=>⟨t.1,t.2.1,t.2.2.1.kept z C,cell_kept t.2.2.2 z C⟩) _) (ownFrom_below ay aa))
    ⟨⟨c2,by rw[ha];exact eD.yH (vs:=oL) A3 rfl,⟨E3.cell 0 _ rfl,E3.eY 0 _ rfl⟩,eD.yH (vs:=zL) R3 rfl,⟨Q3.cell 0 _ rfl,Q3.eY 0 _ rfl⟩,Nat.le_refl _⟩,L3⟩
    (λx a' X=>∃Bx,U.heap.size<=Bx/\eD X Bx (mL (M x))/\a'={tmps:=#[ak s,undef,aI W.heap.size,.pointer (some ⟨W.heap.size+1,0,none⟩),aj (some ⟨g,0,none⟩) n m,aI k.heap.size,aI d.heap.size,undef,aI Bx,aF #[aj (some ⟨g,0,none⟩) n m,aU],ak s,aF #[aj (some ⟨g,0,none⟩) n m,aU],aj (some ⟨g,0,none⟩) n m,aU,aU,.bool false,undef,undef,.agg oA,aj (some ⟨g,0,none⟩) n m,.func (.func 325) #[] #[.pointer (some ⟨d.heap.size+1,0,none⟩)],ag (x:Nat),.agg (mA (M x)),undef,undef,undef,undef,undef,undef,undef,undef,undef,undef,undef],defers:=[]})
    (λx a' s A B c5 t z C=>by obtain⟨Bx,O,F,P⟩:=t;exact⟨Bx,O,F.kept z (λr e=>(C r e).2),P⟩)
    ?assign ?body ?done ?stop
  case assign=>
    rintro l pre x X K ⟨⟨I,O,⟨F,Q⟩,P,⟨T,Z⟩,y⟩,L⟩ hK
    gi_wp2
    have t:=L.size;have a6:=(aQ X.heap.size X).alloc ay (ai (mA (M x)) 165);exact hK _ _ ((KeepsOthers.alloc _ _).from _) (jc.of_below a6 y) ⟨⟨I,O.below a6,⟨aL _ F,gJ _ F Q⟩,P.below a6,⟨aL _ T,gJ _ T Z⟩,bu y a6.size⟩,L.alloc t _⟩ ⟨X.heap.size,y,eD.yH (vs:=(mL (M x))) (gy.new X _ _) rfl,rfl⟩
  case body=>
    rintro l pre x a' X hl C ⟨⟨I,O,⟨F,Q⟩,P,⟨T,Z⟩,y⟩,L⟩ ⟨Bx,k9,hM,rfl⟩ k7;obtain⟨g0,g1,g2,g3,g4,g5,g6,g7,g8,g9,XU,XV⟩:=O.twelve;obtain⟨l0,l1,l2,l3,l4,l5,l7,l9,m0,m1,m2,m3⟩:=hM.twelve;have c6:¬k.heap.size=d.heap.size:=aa;have h5:¬d.heap.size=k.heap.size:=aa;by_cases a7:f (pre++[x])
    . have HK:=HT pre x I a7 X L
      gi_wp2_with ((refine⟨trivial,?_⟩;gi_at_call 195;refine(CallsIn.inRound l (callsIn_wide.2 HK)).mono ?_;rintro e w' ⟨rfl,b⟩;have a4:=O.below b;have c7:=b.size;obtain⟨c8,c9,d0,d1,d2,d3,d4,d6,d7,d8,d9,e0,e2,e3,e4,e5,e6,e7,e8,e9,f0,f1,f2,f3⟩:=a4.six;have ec:=(b.cell (p:=⟨k.heap.size,0,none⟩) (aR F)).trans F;have ef:=(b.frozen (p:=⟨k.heap.size,0,none⟩) (aR F)).trans Q))
      have a8:=P.below b;have c4:=(b.cell (p:=⟨W.heap.size+1,0,none⟩) (aR T)).trans T;have f4:=(b.frozen (p:=⟨W.heap.size+1,0,none⟩) (aR T)).trans Z;refine⟨(((oO b).trans (pK (mL (a (pre++[x]))) 0 d.heap.size w')).trans (gH _ _ _)).from _,((jc.of_below b y).aez (mL (a (pre++[x]))) 0).aiG 0 aU,⟨a7,?_,⟨?_,?_⟩,?_,⟨?_,?_⟩,?_⟩,?_⟩
      . exact(a4.put (us:=(mL (a (pre++[x])))) rfl).nN h5
      . exact iA _ _ _ (pJ ((gQ (p:=⟨k.heap.size,0,none⟩) (R:=d.heap.size) c6 (mL (a (pre++[x]))) 0 w').trans ec))
      . exact(jK _ _ _ _).trans ((nM (mL (a (pre++[x]))) 0 d.heap.size w').trans ef)
      . exact(a8.JX (us:=(mL (a (pre++[x])))) (R':=d.heap.size) aa).nN aa
      . exact(bN _ _ _ _ fJ).trans ((gQ (p:=⟨W.heap.size+1,0,none⟩) (R:=d.heap.size) fJ (mL (a (pre++[x]))) 0 w').trans c4)
      . exact(jK _ _ _ _).trans ((nM (mL (a (pre++[x]))) 0 d.heap.size w').trans f4)
      . have:=(cZ (B:=0) (A:=w') (R:=d.heap.size) (bf _) (mL (a (pre++[x]))) 0 (aQ 0 w')).size
        simp only[mO] at*;omega
      . exact(cZ (R:=d.heap.size) aa (mL (a (pre++[x]))) 0 (L.trans (b.mono L.size))).setCell (p:=⟨k.heap.size,0,none⟩) fJ _
    . have HK:=HN pre x I a7 X L
      gi_wp2_with ((refine⟨trivial,?_⟩;gi_at_call 195;refine(CallsIn.inRound l (callsIn_wide.2 HK)).mono ?_;rintro e w' ⟨rfl,b⟩;dsimp only[Mv.zero,Fr.zero];have a4:=O.below b;have c7:=b.size;obtain⟨c8,c9,d0,d1,d2,d3,d4,d6,d7,d8,d9,e0,e2,e3,e4,e5,e6,e7,e8,e9,f0,f1,f2,f3⟩:=a4.six;have ec:=(b.cell (p:=⟨k.heap.size,0,none⟩) (aR F)).trans F;have ef:=(b.frozen (p:=⟨k.heap.size,0,none⟩) (aR F)).trans Q))
      have a8:=P.below b;have c4:=(b.cell (p:=⟨W.heap.size+1,0,none⟩) (aR T)).trans T;have f4:=(b.frozen (p:=⟨W.heap.size+1,0,none⟩) (aR T)).trans Z;obtain⟨Y,hY⟩:∃Y,(put w' d.heap.size 0 zL).setCell ⟨k.heap.size,0,none⟩ (aP 453 (.pointer (some aB)))=Y:=⟨_,rfl⟩;have h6:KeepsOthers X Y:=by rw[<- hY];exact((oO b).trans (pK zL 0 d.heap.size w')).trans (gH _ _ _)
      have y1:Y.cell? ⟨k.heap.size,0,none⟩=some (aP 453 (.pointer (some aB))):=by rw[<- hY];exact iA _ _ _ (pJ ((gQ (p:=⟨k.heap.size,0,none⟩) (R:=d.heap.size) c6 zL 0 w').trans ec))
      have y3:eD Y W.heap.size zL:=by rw[<- hY];exact(a8.JX (us:=zL) (R':=d.heap.size) aa).nN aa
      have y4:Y.cell? ⟨W.heap.size+1,0,none⟩=some aU:=by rw[<- hY];exact(bN _ _ _ _ fJ).trans ((gQ (p:=⟨W.heap.size+1,0,none⟩) (R:=d.heap.size) fJ zL 0 w').trans c4)
      have y5:Y.frozen? ⟨W.heap.size+1,0,none⟩=false:=by rw[<- hY];exact(jK _ _ _ _).trans ((nM zL 0 d.heap.size w').trans f4)
      have yB:aD W Y:=by rw[<- hY];exact(cZ (R:=d.heap.size) aa zL 0 (L.trans (b.mono L.size))).setCell (p:=⟨k.heap.size,0,none⟩) fJ _
      change Code.wpIn _ _ _ _ _ _ ((put w' d.heap.size 0 zL).setCell ⟨k.heap.size,0,none⟩ (aP 453 (.pointer (some aB))));rw[hY];clear hY;obtain⟨h7,h8,h9,i0,Bo,i1,i2,i3,i4,i5,i6,i7,i8,i9,j0,j1,j2,j3,j4,j7,j8,j9,k0,k1⟩:=y3.six;have k2:¬W.heap.size=k.heap.size:=aa;have k3:¬k.heap.size=W.heap.size:=aa;have b0:¬W.heap.size+1=W.heap.size:=aa;have b1:¬W.heap.size=W.heap.size+1:=aa;clear ec ef c8 c9 d0 d1 d2 d3 d4 d6 d7 d8 d9 e0 e2 e3 e4 e5 e6 e7 e8 e9 f0 f1 f2 f3 a4 a8 c4 f4 b c7
      gi_region
      all_goals
        gi_wp2
        refine⟨KeepsOthers.from (Tp ((h6.trans (pK zL 0 W.heap.size Y)).trans (gH _ ⟨W.heap.size+1,0,none⟩ (aP 453 (.pointer (some aB)))))) _,⟨rfl,a7,?_,?_⟩,?_⟩
        . exact eD.drew ((y3.put (us:=zL) rfl).nN b1)
        . exact JY (iA _ _ _ (pJ ((gQ (p:=⟨W.heap.size+1,0,none⟩) (R:=W.heap.size) b0 zL 0 Y).trans y4)))
        . exact below_drewN ((cZ (R:=W.heap.size) ay zL 0 yB).setCell (p:=⟨W.heap.size+1,0,none⟩) fJ _) 1
  case done=>
    rintro D ys X hD rfl ⟨⟨I,O,⟨F,Q⟩,P,⟨T,Z⟩,y⟩,L⟩ hK;obtain⟨g0,g1,g2,g3,g4,g5,g6,g7,g8,g9,XU,XV⟩:=O.twelve;obtain⟨h7,h8,h9,i0,Bo,i1,i2,i3,i4,i5,i6,i7,i8,i9,j0,j1,j2,j3,j4,j7,j8,j9,k0,k1⟩:=P.six;have k2:¬W.heap.size=d.heap.size:=aa;have k3:¬d.heap.size=W.heap.size:=aa;have b0:¬W.heap.size+1=W.heap.size:=aa;have b1:¬W.heap.size=W.heap.size+1:=aa
    gi_wp2
    have a9:=((pK (mL (a (dw n))) 0 W.heap.size X).trans (gH _ ⟨W.heap.size+1,0,none⟩ aU)).same D _ hK rfl;refine⟨aG,.inl ⟨_,_,rfl,run_takeDeferred a9,?_⟩⟩;have hO:eD ((((((((((((((X.setCell ⟨W.heap.size,0,none⟩ (ag (a (dw n)).a.n)).setCell ⟨W.heap.size,1,none⟩ (ag (a (dw n)).a.d)).setCell ⟨W.heap.size,2,none⟩ (ag (a (dw n)).b.n)).setCell ⟨W.heap.size,3,none⟩ (ag (a (dw n)).b.d)).setCell ⟨W.heap.size,4,none⟩ (ag (a (dw n)).c.n)).setCell ⟨W.heap.size,5,none⟩ (ag (a (dw n)).c.d)).setCell ⟨W.heap.size,6,none⟩ (ag (a (dw n)).d.n)).setCell ⟨W.heap.size,7,none⟩ (ag (a (dw n)).d.d)).setCell ⟨W.heap.size,8,none⟩ (ag (a (dw n)).e.n)).setCell ⟨W.heap.size,9,none⟩ (ag (a (dw n)).e.d)).setCell ⟨W.heap.size,10,none⟩ (ag (a (dw n)).f.n)).setCell ⟨W.heap.size,11,none⟩ (ag (a (dw n)).f.d)).setCell ⟨W.heap.size+1,0,none⟩ aU).putObj D (.deferred none)) W.heap.size (mL (a (dw n))):=((P.put (us:=(mL (a (dw n)))) rfl).nN (o:=0) (v:=aU) b1).kept (grownBy_putObj' _ D (.deferred none)) (λr e=>by cases e;exact⟨_,a9,rfl⟩);have hQ:((((((((((((((X.setCell ⟨W.heap.size,0,none⟩ (ag (a (dw n)).a.n)).setCell ⟨W.heap.size,1,none⟩ (ag (a (dw n)).a.d)).setCell ⟨W.heap.size,2,none⟩ (ag (a (dw n)).b.n)).setCell ⟨W.heap.size,3,none⟩ (ag (a (dw n)).b.d)).setCell ⟨W.heap.size,4,none⟩ (ag (a (dw n)).c.n)).setCell ⟨W.heap.size,5,none⟩ (ag (a (dw n)).c.d)).setCell ⟨W.heap.size,6,none⟩ (ag (a (dw n)).d.n)).setCell ⟨W.heap.size,7,none⟩ (ag (a (dw n)).d.d)).setCell ⟨W.heap.size,8,none⟩ (ag (a (dw n)).e.n)).setCell ⟨W.heap.size,9,none⟩ (ag (a (dw n)).e.d)).setCell ⟨W.heap.size,10,none⟩ (ag (a (dw n)).f.n)).setCell ⟨W.heap.size,11,none⟩ (ag (a (dw n)).f.d)).setCell ⟨W.heap.size+1,0,none⟩ aU).putObj D (.deferred none)).cell? ⟨W.heap.size+1,0,none⟩=some aU:=cell_kept (iA _ _ aU (pJ ((gQ (p:=⟨W.heap.size+1,0,none⟩) (R:=W.heap.size) b0 (mL (a (dw n))) 0 X).trans T))) (grownBy_putObj' _ D (.deferred none)) (λr e=>by cases e;exact⟨_,a9,rfl⟩)
    obtain⟨b2,b3,b4,b5,b6,b7,b8,b9,c0,c1,Tq,Tt⟩:=hO.twelve;clear hO;have hL:=(cZ (R:=W.heap.size) ay (mL (a (dw n))) 0 L).setCell (p:=⟨W.heap.size+1,0,none⟩) fJ aU;refine⟨aF #[mv (a (dw n)),aU],?_,.inl ⟨I,rfl⟩,hL.trans (belowK_b (w:=W) ay _ D _ _ aa a9 rfl rfl)⟩;simp[results,results194,go_sem,hQ,b2,b3,b4,b5,b6,b7,b8,b9,c0,c1,Tq,Tt]
  case stop=>
    rintro D c pre X hD f5 ⟨⟨rfl,O,F,P⟩,L⟩ hK
    gi_wp2
    refine⟨aG,.inl ⟨_,_,rfl,run_takeDeferred hK,?_⟩⟩;have C:∀r,some D=some r->∃o:Obj,X.heap[r]? =some o/\o.isCells=false:=λr e=>by cases e;exact⟨_,hK,rfl⟩
    have z:=grownBy_putObj' X D (.deferred none);have k4:=cell_kept P z C;have k5:=F.kept z C;obtain⟨b2,b3,b4,b5,b6,b7,b8,b9,c0,c1,Tq,Tt⟩:=k5.twelve;obtain⟨r,k6⟩:=f5;refine⟨aF #[mv .zero,aP 453 (.pointer (some aB))],?_,.inr ⟨λe=>O (f6 pre r (by rw[k6];exact e)),rfl⟩,L.trans (belowK_b (w:=W) ay X D _ _ aa hK rfl rfl)⟩;simp[results,results194,go_sem,Mv.zero,Fr.zero,k4,b2,b3,b4,b5,b6,b7,b8,b9,c0,c1,Tq,Tt]
end
open Go.RowKit Go.Shelf
set_option maxRecDepth 100000
attribute [local go_sem] Oper.semAt_some
theorem a1e (F:Fence)(n:Nat)(d:F.fn 325)(a:F.round=none)(l Bl:Nat)(J f:List Nat->ah->Prop)
  (W:ah) (g:W.cell? (aH Bl 0)=some (aj none 0 0)) (h:J [] W):
  CallsIn F n prog 325 #[.func (.yield l) #[] #[],aI Bl] W λe b=>(∃v,e=ax v)/\
   ((∃c,c=[]/\J c b)\/(∃pre,pre<+:[]/\f pre b)):=by
 refine callsIn_of_wp func325 rfl d ?_ a;simp only[ntmps325,ji,eP,iO,Nat.reduceAdd,Nat.reduceSub,jM,jL,jO,jN,gF,fV]
 gi_wp2
 gi_loopw [3] (λi wr=>i=ag (-1)/\J [] wr) (λ_ _=>0)
 case atStart=>exact⟨rfl,h⟩
 case round=>
  obtain⟨rfl,j⟩:=hrel
  gi_wp2
  go_end0
  exact⟨⟨_,rfl⟩,.inl ⟨_,rfl,j⟩⟩
theorem a1f (s:aM)(W:ah)
  (HL:∀V,aD W V->aJ 262 #[ak s] V λe w'=>e=ax (aF #[aj none 0 0,aU])/\aD V w'):
  CallsIn Fence.wide 9 prog 194 #[ak s] W λe w'=>e=ax (aF #[mv (Mv.one),aU])/\aD W w':=by
 have HO:=tV;have HB:=zP;have L0:=((aQ W.heap.size W).alloc ay (ai zA 165)).alloc aG (ai #[aU] 25);have R0:gy ((W.alloc (ai zA 165)).alloc (ai #[aU] 25)) W.heap.size zA 165:=(gy.new W _ _).alloc _;have I:=gy.new (W.alloc (ai zA 165)) #[aU] 25;rw[dK] at I;refine callsIn_of_wp_marks func194 rfl trivial ?_ rfl;simp only[ntmps194,ji,eP,iO,Nat.reduceAdd,Nat.reduceSub,jM,jL,jO,jN,gF,fV]
 gi_wp2_with (first|(refine⟨trivial,?_⟩;gi_at_call 263;refine(callsIn_wide.2 (HB _ _ _ _ rfl _)).mono ?_;rintro e w' ⟨rfl,rfl⟩)|(refine⟨trivial,?_⟩;gi_at_call 78;refine(callsIn_wide.2 (HO _)).mono ?_;rintro e d ⟨rfl,f⟩;dsimp only[Mv.one,Fr.whole])|(refine⟨trivial,?_⟩;gi_at_call 262;refine(callsIn_wide.2 (HL _ L0)).mono ?_;rintro e n ⟨rfl,g⟩))
 have Sl:=g.size;simp only[dK] at Sl;have L:=f.size;simp only[dK] at L;have e1:(n.alloc (ai #[aU] 25)).heap.size=n.heap.size+1:=aG;have E2:=(gy.new n #[aU] 25).below f ay;have R2:=((R0.below g ay).alloc (ai #[aU] 25)).below f ay;have Q2:=((I.below g ay).alloc (ai #[aU] 25)).below f ay;have L2:=((L0.trans (g.mono aX)).alloc aa (ai #[aU] 25)).trans (f.mono aX);obtain⟨U,a⟩:∃U,(d.alloc (ai oA 165)).alloc (ai #[aj none 0 0] 341)=U:=⟨_,rfl⟩;have b2:U.heap.size=d.heap.size+2:=by rw[<- a];simp
 have A3:gy U d.heap.size oA 165:=by rw[<- a];exact(gy.new d _ _).alloc _
 have C3:U.cell? ⟨d.heap.size+1,0,none⟩=some (aj none 0 0):=by rw[<- a];exact dG aG rfl
 have E3:gy U n.heap.size #[aU] 25:=by rw[<- a];exact(E2.alloc _).alloc _
 have R3:gy U W.heap.size zA 165:=by rw[<- a];exact(R2.alloc _).alloc _
 have Q3:gy U (W.heap.size+1) #[aU] 25:=by rw[<- a];exact(Q2.alloc _).alloc _
 have L3:aD W U:=by rw[<- a];exact(L2.alloc aa _).alloc aX _
 rw[a];clear a L2 R0 I E2 R2 Q2;refine wpIn_rangeFunc_ownH rfl aa (gf:=325) (lb:=#[.pointer (some ⟨d.heap.size+1,0,none⟩)]) rfl trivial (enters_of func325 az rfl)
  (encs:=λx:Nat=>a95 Mv.one x) (Kp:=jc n.heap.size d.heap.size U.heap.size) (S:=λys=>ys=[]) (Sp:=λpre=>pre<+:[]) (N:=0) (w0:=U)
  (λl J Jx X hX _ _ hY h0=>a1e Fence.wide _ trivial rfl l (d.heap.size+1) J Jx X ((hX.cell (p:=⟨d.heap.size+1,0,none⟩) fJ).trans C3) h0)
  jc.trans (λX l o o' hl _ _ _=>jc.put X l o' hl) (aQ _ _) (λ_=>rfl)
  (λpre X=>(eD X d.heap.size (mL Mv.one)/\(X.cell? ⟨n.heap.size,0,none⟩=some aU/\X.frozen? ⟨n.heap.size,0,none⟩=false)/\eD X W.heap.size zL/\(X.cell? ⟨W.heap.size+1,0,none⟩=some aU/\X.frozen? ⟨W.heap.size+1,0,none⟩=false)/\U.heap.size<=X.heap.size)/\aD W X)
  (λ_ _ _=>False)
  (OwnFrom.and (Own.from (λpre A B M b i j=>⟨b.1.kept i j,⟨cell_kept b.2.1.1 i j,(frozen_kept b.2.1.1 i j).trans b.2.1.2⟩,b.2.2.1.kept i j,⟨cell_kept b.2.2.2.1.1 i j,(frozen_kept b.2.2.2.1.1 i j).trans b.2.2.2.1.2⟩,bu b.2.2.2.2 i.size⟩) _) (ownFrom_below ay aa))
  (λ_ _ _ _ _ h _ _=>h)
  ⟨⟨eD.yH (vs:=oL) A3 rfl,⟨E3.cell 0 _ rfl,E3.eY 0 _ rfl⟩,eD.yH (vs:=zL) R3 rfl,⟨Q3.cell 0 _ rfl,Q3.eY 0 _ rfl⟩,Nat.le_refl _⟩,L3⟩
  (λx O X=>∃t,U.heap.size<=t/\eD X t (mL Mv.one)/\O={tmps:=#[ak s,undef,aI W.heap.size,.pointer (some ⟨W.heap.size+1,0,none⟩),aj none 0 0,aI n.heap.size,aI d.heap.size,undef,aI t,aF #[aj none 0 0,aU],ak s,aF #[aj none 0 0,aU],aj none 0 0,aU,aU,.bool false,undef,undef,.agg oA,aj none 0 0,.func (.func 325) #[] #[.pointer (some ⟨d.heap.size+1,0,none⟩)],ag (x:Nat),.agg (mA Mv.one),undef,undef,undef,undef,undef,undef,undef,undef,undef,undef,undef],defers:=[]})
  (λx O s A B M b i j=>by obtain⟨t,u,y,q⟩:=b;exact⟨t,u,y.kept i (λr e=>(j r e).2),q⟩)
  ?assign ?body ?done ?stop
 case assign=>
  rintro l pre x X K ⟨⟨u,⟨y,z⟩,q,⟨F,C⟩,a⟩,H⟩ P
  gi_wp2
  have b:=H.size;have k:=(aQ X.heap.size X).alloc ay (ai (mA Mv.one) 165);exact P _ _ ((KeepsOthers.alloc _ _).from _) (jc.of_below k a) ⟨⟨u.below k,⟨aL _ y,gJ _ y z⟩,q.below k,⟨aL _ F,gJ _ F C⟩,bu a k.size⟩,H.alloc b _⟩ ⟨X.heap.size,a,eD.yH (vs:=(mL Mv.one)) (gy.new X _ _) rfl,rfl⟩
 case body=>
  rintro l pre x O X hl j _ _ E;exact(Nat.not_lt_zero _ E).elim
 case done=>
  rintro D ys X hD rfl ⟨⟨u,⟨y,z⟩,q,⟨F,C⟩,a⟩,H⟩ P;obtain⟨b3,b4,b5,b6,b7,b8,b9,c0,c1,c2,XU,XV⟩:=u.twelve;obtain⟨c3,c4,c5,c6,Bo,c7,c8,c9,d0,d1,d2,d3,d4,d6,d7,d8,d9,e0,e2,e3,e4,e5,e6,e7⟩:=q.six;have Q:¬W.heap.size+1=W.heap.size:=aa;have T:¬W.heap.size=W.heap.size+1:=aa
  gi_wp2
  have m:=((pK (mL (Mv.one)) 0 W.heap.size X).trans (gH _ ⟨W.heap.size+1,0,none⟩ aU)).same D _ P rfl;refine⟨aG,.inl ⟨_,_,rfl,run_takeDeferred m,?_⟩⟩;have hO:eD ((((((((((((((X.setCell ⟨W.heap.size,0,none⟩ (ag (Mv.one).a.n)).setCell ⟨W.heap.size,1,none⟩ (ag (Mv.one).a.d)).setCell ⟨W.heap.size,2,none⟩ (ag (Mv.one).b.n)).setCell ⟨W.heap.size,3,none⟩ (ag (Mv.one).b.d)).setCell ⟨W.heap.size,4,none⟩ (ag (Mv.one).c.n)).setCell ⟨W.heap.size,5,none⟩ (ag (Mv.one).c.d)).setCell ⟨W.heap.size,6,none⟩ (ag (Mv.one).d.n)).setCell ⟨W.heap.size,7,none⟩ (ag (Mv.one).d.d)).setCell ⟨W.heap.size,8,none⟩ (ag (Mv.one).e.n)).setCell ⟨W.heap.size,9,none⟩ (ag (Mv.one).e.d)).setCell ⟨W.heap.size,10,none⟩ (ag (Mv.one).f.n)).setCell ⟨W.heap.size,11,none⟩ (ag (Mv.one).f.d)).setCell ⟨W.heap.size+1,0,none⟩ aU).putObj D (.deferred none)) W.heap.size (mL (Mv.one)):=((q.put (us:=(mL (Mv.one))) rfl).nN (o:=0) (v:=aU) T).kept (grownBy_putObj' _ D (.deferred none)) (λr e=>by cases e;exact⟨_,m,rfl⟩);have hQ:((((((((((((((X.setCell ⟨W.heap.size,0,none⟩ (ag (Mv.one).a.n)).setCell ⟨W.heap.size,1,none⟩ (ag (Mv.one).a.d)).setCell ⟨W.heap.size,2,none⟩ (ag (Mv.one).b.n)).setCell ⟨W.heap.size,3,none⟩ (ag (Mv.one).b.d)).setCell ⟨W.heap.size,4,none⟩ (ag (Mv.one).c.n)).setCell ⟨W.heap.size,5,none⟩ (ag (Mv.one).c.d)).setCell ⟨W.heap.size,6,none⟩ (ag (Mv.one).d.n)).setCell ⟨W.heap.size,7,none⟩ (ag (Mv.one).d.d)).setCell ⟨W.heap.size,8,none⟩ (ag (Mv.one).e.n)).setCell ⟨W.heap.size,9,none⟩ (ag (Mv.one).e.d)).setCell ⟨W.heap.size,10,none⟩ (ag (Mv.one).f.n)).setCell ⟨W.heap.size,11,none⟩ (ag (Mv.one).f.d)).setCell ⟨W.heap.size+1,0,none⟩ aU).putObj D (.deferred none)).cell? ⟨W.heap.size+1,0,none⟩=some aU:=cell_kept (iA _ _ aU (pJ ((gQ (p:=⟨W.heap.size+1,0,none⟩) (R:=W.heap.size) Q (mL (Mv.one)) 0 X).trans F))) (grownBy_putObj' _ D (.deferred none)) (λr e=>by cases e;exact⟨_,m,rfl⟩);obtain⟨Y,Z,a4,a5,a6,a7,a8,a9,b0,b1,Tq,Tt⟩:=hO.twelve
  clear hO;have hL:=(cZ (R:=W.heap.size) ay (mL (Mv.one)) 0 H).setCell (p:=⟨W.heap.size+1,0,none⟩) fJ aU;refine⟨aF #[mv (Mv.one),aU],?_,rfl,hL.trans (belowK_b (w:=W) ay _ D _ _ aa m rfl rfl)⟩;simp[results,results194,go_sem,hQ,Y,Z,a4,a5,a6,a7,a8,a9,b0,b1,Tq,Tt]
 case stop=>
  rintro D c pre X _ _ h _;exact h.elim
theorem OY (s:aM)(a:Addr)(W:ah)
  (C:∀V,aD W V->aJ 262 #[ak s] V λe w'=>e=ax (aF #[aj none 0 0,aP 453 (.pointer (some a))])/\aD V w'):
  CallsIn Fence.wide 9 prog 194 #[ak s] W λe w'=>e=ax (aF #[mv .zero,aP 453 (.pointer (some a))])/\aD W w':=by
 have d:=((aQ W.heap.size W).alloc ay (ai zA 165)).alloc aG (ai #[aU] 25);have x:gy ((W.alloc (ai zA 165)).alloc (ai #[aU] 25)) W.heap.size zA 165:=(gy.new W _ _).alloc _;have f:=gy.new (W.alloc (ai zA 165)) #[aU] 25;rw[dK] at f;refine callsIn_of_wp_marks func194 rfl trivial ?_ rfl;simp only[ntmps194,ji,eP,iO,Nat.reduceAdd,Nat.reduceSub,jM,jL,jO,jN,gF,fV]
 gi_wp2_with ((refine⟨trivial,?_⟩;gi_at_call 262;refine(callsIn_wide.2 (C _ d)).mono ?_;rintro e y ⟨rfl,b⟩))
 have D:=b.size;simp only[dK] at D;obtain⟨Y,c⟩:∃Y,y.alloc (ai #[aP 453 (.pointer (some a))] 25)=Y:=⟨_,rfl⟩;have L:Y.cell? ⟨y.heap.size,0,none⟩=some (aP 453 (.pointer (some a))):=by rw[<- c];exact dG rfl rfl
 have z:gy Y W.heap.size zA 165:=by rw[<- c];exact(x.below b ay).alloc _
 have A:gy Y (W.heap.size+1) #[aU] 25:=by rw[<- c];exact(f.below b ay).alloc _
 have F:aD W Y:=by rw[<- c];exact(d.trans (b.mono aX)).alloc aa _
 rw[c];clear c b x f d;have H:=A.cell 0 _ rfl;have M:=A.eY 0 _ rfl;obtain⟨N,O,P,Q,S,T,U,X,Z,O9,zl,Oa,zm,Ob,zo,Oc,zq,Od,zu,Oe,mq,vH,mD,vI⟩:=z.six;have g:¬W.heap.size+1=W.heap.size:=aa;have h:¬W.heap.size=W.heap.size+1:=aa
 gi_region
 all_goals
  gi_wp2
  have i:=eD.drew (((eD.yH (vs:=zL) z rfl).put (us:=zL) rfl).nN (E:=W.heap.size+1) (o:=0) (v:=aP 453 (.pointer (some a))) h);have B:=JY (iA (put Y W.heap.size 0 zL) ⟨W.heap.size+1,0,none⟩ (aP 453 (.pointer (some a))) (pJ ((gQ (p:=⟨W.heap.size+1,0,none⟩) (R:=W.heap.size) g zL 0 Y).trans H)));simp only[put,fZ,Nat.reduceAdd] at i B;obtain⟨j,k,l,m,n,q,r,t,u,w,I,J⟩:=i.twelve;clear i;have K:=below_drewN ((cZ (R:=W.heap.size) ay zL 0 F).setCell (p:=⟨W.heap.size+1,0,none⟩) fJ (aP 453 (.pointer (some a)))) 1;refine⟨aF #[mv .zero,aP 453 (.pointer (some a))],?_,rfl,K⟩;simp[results,results194,go_sem,Mv.zero,Fr.zero,B,j,k,l,m,n,q,r,t,u,w,I,J]

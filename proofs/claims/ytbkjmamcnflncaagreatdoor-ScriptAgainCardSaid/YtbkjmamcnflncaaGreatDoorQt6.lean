import Derived.Shelf.Strings.OnBuilder
import Derived.Shelf.Small.Utf8
import Derived.Shelf.Small.Wraps
import Derived.Shelf.Strconv.Itoa3
import Derived.Shelf.Strconv.ErrVarAll
import Derived.Shelf.Strings.Shaped
import Derived.Shelf.Strings.LastIndex
import Derived.Shelf.GgClosure.StringsIndexFuncTop
import Derived.Shelf.Strings.Replace
import Derived.Shelf.Strings.IndexAnyAll
import Derived.Shelf.Strings.BuilderCap
import Derived.Shelf.Slices.Turned
import Derived.Shelf.SlicesE.DeleteFunc
import Derived.Shelf.SortM.Plain
import Derived.Shelf.SortM.SortNone
import Derived.Test.YtbkjmamcnflncaaGreatDoorQt5
import Derived.Test.YtbkjmamcnflncaaGreatDoorQt4
import Derived.Deep.AppendLies
namespace Go.Proofs
open Go.Shelf
def Tryz.Po:Go.Shelf.Ren:=⟨λ|170=>96|n=>n,λ|70=>184|3=>3|0=>0|72=>187|37=>185|5=>5|n=>n,λ|n=>n⟩
theorem Tryz.a6r:Go.Proofs.Lays.n170 prog Tryz.Po:=by
 constructor<;>intros<;>first|kernel_rfl|constructor<;>intros<;>first|kernel_rfl|constructor<;>intros<;>kernel_rfl
def Tryz.DK:Go.Shelf.Ren:=⟨λ|169=>94|n=>n,λ|70=>184|9=>9|0=>0|72=>187|37=>185|127=>264|3=>3|5=>5|n=>n,λ|n=>n⟩
theorem Tryz.a6s:Go.Proofs.Lays.n169 prog Tryz.DK:=by
 constructor<;>intros<;>first|kernel_rfl|constructor<;>intros<;>first|kernel_rfl|constructor<;>intros<;>kernel_rfl
theorem Tryz.Al:Builder.Extra prog Tryz.DK:={
 sizeBuilder:=by kernel_rfl
 liesBuilder:=by kernel_rfl
 t5:=underlying5
 a5:=Tryz.isAgg5
 z5:=Tryz.sizeOf5
 v5:=Tryz.zeroValue5
 infoByte:=by kernel_rfl
 cellsByte:=by kernel_rfl
 sizeByte:=by kernel_rfl
 neB5:=by decide}
def Tryz.DR:Go.Shelf.Ren:=⟨λ|156=>110|165=>152|166=>154|169=>94|240=>156|241=>221|276=>223|277=>284|n=>n,λ|31=>22|9=>9|3=>3|4=>4|0=>0|20=>20|72=>187|76=>248|70=>184|37=>185|75=>25|127=>264|164=>124|5=>5|80=>101|n=>n,λ|n=>n⟩
theorem Tryz.a6t:Go.Proofs.Lays.n156 prog Tryz.DR:=by
 constructor<;>intros<;>first|kernel_rfl|constructor<;>intros<;>first|kernel_rfl|constructor<;>intros<;>kernel_rfl
theorem Tryz.Am:Builder.Extra prog Tryz.DR:={
 sizeBuilder:=by kernel_rfl
 liesBuilder:=by kernel_rfl
 t5:=underlying5
 a5:=Tryz.isAgg5
 z5:=Tryz.sizeOf5
 v5:=Tryz.zeroValue5
 infoByte:=by kernel_rfl
 cellsByte:=by kernel_rfl
 sizeByte:=by kernel_rfl
 neB5:=by decide}
open Go.RowKit in
theorem Tryz.strings_Join (h o c:Nat)(d:List ByteArray)(a:ByteArray)(w:World)(b:∀(j:Nat) x,d[j]? =some x->w.cell? ⟨h,o+j,none⟩=some (.string x))(i:h<w.heap.size)(k:d.length<=140737488355328)(f:d.length<=c)(g:(Lib.join (d.map (·.data.toList)) a.data.toList).length<=140737488355328):
  Calls prog 110 #[.slice (some ⟨h,o,none⟩) d.length c,.string a] w λe w'=>e=.returned (.string ⟨(Lib.join (d.map (·.data.toList)) a.data.toList).toArray⟩)/\Below w.heap.size w w':=Any.strings_Join Tryz.a6t Tryz.Am h o c d a w b i k f g
def Tryz.Pp:Go.Shelf.Ren:=⟨λ|119=>334|n=>n,λ|21=>21|4=>4|n=>n,λ|n=>n⟩
theorem Tryz.a6u:Go.Proofs.Lays.n119 prog Tryz.Pp:=by
 constructor<;>intros<;>first|kernel_rfl|constructor<;>intros<;>first|kernel_rfl|constructor<;>intros<;>kernel_rfl
theorem Tryz.utf8_ValidRune (r:Int)(w:World):
  Calls prog 334 #[.int .i32 r] w λe w'=>e=.returned (.bool (Lib.validRune r))/\w'=w:=Any.utf8_ValidRune Tryz.a6u r w
def Tryz.Pq:Go.Shelf.Ren:=⟨λ|137=>200|217=>237|266=>303|n=>n,λ|9=>9|5=>5|3=>3|n=>n,λ|n=>n⟩
theorem Tryz.a6v:Go.Proofs.Lays.n137 prog Tryz.Pq:=by
 constructor<;>intros<;>first|kernel_rfl|constructor<;>intros<;>first|kernel_rfl|constructor<;>intros<;>kernel_rfl
open Go.RowKit in
theorem Tryz.strings_IndexByte (s:ByteArray)(c:Int)(w:World):
  Calls prog 200 #[.string s,.int .u8 c] w λe w'=>e=.returned (.int .i64 (Lib.indexByte s.data.toList c.toNat.toUInt8))/\w'=w:=Any.strings_IndexByte Tryz.a6v s c w
def Tryz.Pv:Go.Shelf.Ren:=⟨λ|103=>198|210=>269|206=>271|n=>n,λ|9=>9|4=>4|24=>38|3=>3|n=>n,λ|n=>n⟩
theorem Tryz.a6w:Go.Proofs.Lays.n103 prog Tryz.Pv:=by
 constructor<;>intros<;>first|kernel_rfl|constructor<;>intros<;>first|kernel_rfl|constructor<;>intros<;>kernel_rfl
open Go.RowKit in
theorem Tryz.strings_CutPrefix (s p:ByteArray)(w:World):
  Calls prog 198 #[.string s,.string p] w λe w'=>e=.returned (.tuple #[.string ⟨(Lib.trimPrefix s.data.toList p.data.toList).toArray⟩,.bool (Lib.hasPrefix s.data.toList p.data.toList)])/\w'=w:=Any.strings_CutPrefix Tryz.a6w s p w
def Tryz.Pw:Go.Shelf.Ren:=⟨λ|104=>119|211=>179|207=>247|n=>n,λ|9=>9|4=>4|24=>38|3=>3|n=>n,λ|n=>n⟩
theorem Tryz.a6x:Go.Proofs.Lays.n104 prog Tryz.Pw:=by
 constructor<;>intros<;>first|kernel_rfl|constructor<;>intros<;>first|kernel_rfl|constructor<;>intros<;>kernel_rfl
open Go.RowKit in
theorem Tryz.strings_CutSuffix (s p:ByteArray)(w:World)(hs:s.size<=9223372036854775807):
  Calls prog 119 #[.string s,.string p] w λe w'=>e=.returned (.tuple #[.string ⟨(Lib.trimSuffix s.data.toList p.data.toList).toArray⟩,.bool (Lib.hasSuffix s.data.toList p.data.toList)])/\w'=w:=Any.strings_CutSuffix Tryz.a6x s p w hs
open Go.RowKit in
theorem Tryz.Builder_Len_f (B b:Nat)(a:List Value)(w:World)(h:Lib.IsBuilderF 187 5 B b a w):
  Calls prog 96 #[.pointer (some ⟨b,0,none⟩)] w λe w'=>e=.returned (.int .i64 a.length)/\w'=w:=Any.Builder_Len_f Tryz.a6r B b a w h
open Go.RowKit in
theorem Tryz.Builder_String_any_k (B b:Nat)(l:List UInt8)(w:World)(h:Lib.IsBuilderF 187 5 B b (Lib.byteCells l) w)(a:B<=w.heap.size):
  Calls prog 94 #[.pointer (some ⟨b,0,none⟩)] w λe w'=>e=.returned (.string ⟨l.toArray⟩)/\(Lib.IsBuilderF 187 5 B b (Lib.byteCells l) w'/\Below B w w'/\Lib.OthersKept 5 (some b) w w'):=Any.Builder_String_any_k Tryz.a6s Tryz.Al B b l w h a
def Tryz.MI:Go.Shelf.Ren:=⟨λ|171=>45|243=>88|246=>150|283=>215|284=>216|285=>217|286=>218|129=>280|317=>279|318=>281|319=>282|320=>283|337=>332|338=>333|n=>n,λ|3=>3|9=>9|2=>2|4=>4|171=>306|0=>0|53=>307|37=>185|5=>5|173=>310|212=>358|51=>359|20=>20|213=>360|46=>321|232=>447|233=>448|n=>n,λ|17=>13|18=>18|19=>19|n=>n⟩
theorem Tryz.a1I:Go.Proofs.LaysM.n171 prog Tryz.MI:=by
 constructor<;>intros<;>first|kernel_rfl|constructor<;>intros<;>first|kernel_rfl|constructor<;>intros<;>kernel_rfl
open Go.RowKit Go.Sort Go.Lib in
theorem Tryz.strconv_Itoa (n:Int)(b: -9223372036854775808<=n)(c:n<=9223372036854775807)(w:World)(a:Lib.TabIs prog w "internal/strconv.uint64pow10" .u64 Lib.pow10Tab):
  Calls prog 45 #[.int .i64 n] w λe w'=>e=.returned (.string ⟨(Lib.itoa n).toArray⟩)/\∃k d,w'=grow (w.drewN k) d:=Any.strconv_Itoa Tryz.a1I n b c w a
def Tryz.MJ:Go.Shelf.Ren:=⟨λ|172=>176|244=>241|245=>242|247=>305|279=>306|280=>307|281=>308|282=>309|287=>343|316=>344|171=>45|205=>345|321=>364|322=>365|243=>88|246=>150|283=>215|284=>216|285=>217|286=>218|129=>280|317=>279|318=>281|319=>282|320=>283|337=>332|338=>333|n=>n,λ|9=>9|3=>3|75=>25|76=>248|4=>4|5=>5|167=>384|37=>185|0=>0|85=>385|2=>2|168=>387|53=>307|175=>428|46=>321|210=>431|127=>264|145=>455|143=>453|21=>21|171=>306|173=>310|212=>358|51=>359|20=>20|213=>360|232=>447|233=>448|80=>101|n=>n,λ|15=>16|16=>17|17=>13|18=>18|19=>19|n=>n⟩
theorem Tryz.Gl:Go.Proofs.LaysC.n172 prog Tryz.MJ:=by
 constructor<;>intros<;>first|kernel_rfl|constructor<;>intros<;>first|kernel_rfl|constructor<;>intros<;>kernel_rfl
open Go.RowKit in
theorem Tryz.strconv_Atoi_ok (s:ByteArray)(a:s.size<=9223372036854775806)(v:Int)(h:Lib.atoiAll s.data.toList=.ok v)(w:World):
  Calls prog 176 #[.string s] w λe w'=>e=.returned (.tuple #[.int .i64 v,.nilIface])/\(w'=w\/∃t,w'=Lib.bytesWorld w 5 t):=Any.strconv_Atoi_ok Tryz.Gl s a v h w
open Go.RowKit in
theorem Tryz.strconv_Atoi_syntax (s:ByteArray)(a:s.size<=281474976710656)(h:Lib.atoiAll s.data.toList=.«syntax»)(b:Value)(w:World)(d:w.cell? ⟨16,0,none⟩=some b)(c:b=.nilIface\/∃f g,b=.iface f g):
  Calls prog 176 #[.string s] w λe w'=>∃N,e=.returned (.tuple #[.int .i64 (0),.iface 387 (.pointer (some ⟨N,0,none⟩))])/\w.heap.size<=N/\w'.heap[N]? =some (.cells #[.string ⟨#[65,116,111,105]⟩,.string s,b] 431 (0,0))/\Below w.heap.size w w':=Any.strconv_Atoi_syntax Tryz.Gl s a h b w d c
open Go.RowKit in
theorem Tryz.strconv_Atoi_range (s:ByteArray)(a:s.size<=281474976710656)(h:Lib.atoiAll s.data.toList=.range)(b:Value)(w:World)(d:w.cell? ⟨17,0,none⟩=some b)(c:b=.nilIface\/∃f g,b=.iface f g):
  Calls prog 176 #[.string s] w λe w'=>∃N,e=.returned (.tuple #[.int .i64 (Lib.atoiSat s.data.toList),.iface 387 (.pointer (some ⟨N,0,none⟩))])/\w.heap.size<=N/\w'.heap[N]? =some (.cells #[.string ⟨#[65,116,111,105]⟩,.string s,b] 431 (0,0))/\Below w.heap.size w w':=Any.strconv_Atoi_range Tryz.Gl s a h b w d c
def Tryz.Px:Go.Shelf.Ren:=⟨λ|219=>175|217=>237|225=>238|224=>239|267=>240|266=>303|314=>304|n=>n,λ|9=>9|3=>3|4=>4|5=>5|46=>321|146=>382|51=>359|n=>n,λ|1=>12|n=>n⟩
theorem Tryz.a6y:Go.Proofs.Lays.n219 prog Tryz.Px:=by
 constructor<;>intros<;>first|kernel_rfl|constructor<;>intros<;>first|kernel_rfl|constructor<;>intros<;>kernel_rfl
open Go.RowKit Go.Lib in
theorem Tryz.stringslite_Index_one (s:ByteArray)(c:UInt8)(w:World):
  Calls prog 175 #[.string s,.string ⟨#[c]⟩] w λe w'=>e=.returned (.int .i64 (Lib.indexByte s.data.toList c))/\w'=w:=Any.stringslite_Index_one Tryz.a6y s c w
def Tryz.Py:Go.Shelf.Ren:=⟨λ|143=>153|219=>175|217=>237|225=>238|224=>239|267=>240|266=>303|314=>304|n=>n,λ|9=>9|3=>3|4=>4|5=>5|46=>321|146=>382|51=>359|n=>n,λ|1=>12|n=>n⟩
theorem Tryz.a6z:Go.Proofs.Lays.n143 prog Tryz.Py:=by
 constructor<;>intros<;>first|kernel_rfl|constructor<;>intros<;>first|kernel_rfl|constructor<;>intros<;>kernel_rfl
def Tryz.Pz:Go.Shelf.Ren:=⟨λ|145=>59|220=>113|219=>175|217=>237|225=>238|224=>239|267=>240|266=>303|314=>304|n=>n,λ|9=>9|4=>4|59=>119|3=>3|5=>5|46=>321|146=>382|51=>359|n=>n,λ|1=>12|n=>n⟩
theorem Tryz.a6A:Go.Proofs.Lays.n145 prog Tryz.Pz:=by
 constructor<;>intros<;>first|kernel_rfl|constructor<;>intros<;>first|kernel_rfl|constructor<;>intros<;>kernel_rfl
open Go.RowKit Go.Lib in
theorem Tryz.strings_Cut (s a:ByteArray)(m:Int)(w:World)(hs:s.size<4294967281)(b:w.cell? ⟨12,0,none⟩=some (.int .i64 m)):
  Calls prog 59 #[.string s,.string a] w λe w'=>e=.returned (.tuple #[.string ⟨(Lib.cut s.data.toList a.data.toList).1.toArray⟩,.string ⟨(Lib.cut s.data.toList a.data.toList).2.1.toArray⟩,.bool (Lib.cut s.data.toList a.data.toList).2.2])/\∃n,w'=w.drewN n:=Any.strings_Cut Tryz.a6A s a m w hs b
def Tryz.PG:Go.Shelf.Ren:=⟨λ|138=>151|195=>219|218=>220|143=>153|219=>175|217=>237|225=>238|224=>239|267=>240|266=>303|314=>304|n=>n,λ|9=>9|3=>3|4=>4|5=>5|0=>0|46=>321|146=>382|51=>359|n=>n,λ|1=>12|n=>n⟩
theorem Tryz.a6B:Go.Proofs.Lays.n138 prog Tryz.PG:=by
 constructor<;>intros<;>first|kernel_rfl|constructor<;>intros<;>first|kernel_rfl|constructor<;>intros<;>kernel_rfl
def Tryz.ML:Go.Shelf.Ren:=⟨λ|145=>59|220=>113|219=>175|217=>237|225=>238|224=>239|267=>240|266=>303|314=>304|n=>n,λ|9=>9|4=>4|59=>119|3=>3|5=>5|46=>321|146=>382|51=>359|n=>n,λ|1=>12|n=>n⟩
theorem Tryz.a1J:Go.Proofs.LaysM.n145 prog Tryz.ML:=by
 constructor<;>first|exact λw h=>Go.Proofs.cell_of_shapedOpen_int (zero:=#[.int .i64 0]) (t:=3) h (of_decide_eq_true (by kernel_rfl)) (by kernel_rfl) rfl (by kernel_rfl) (by kernel_rfl) underlying3|(intros;first|kernel_rfl|constructor<;>intros<;>first|kernel_rfl|constructor<;>intros<;>kernel_rfl)
def Tryz.PK:Go.Shelf.Ren:=⟨λ|149=>225|222=>285|n=>n,λ|9=>9|5=>5|3=>3|4=>4|n=>n,λ|n=>n⟩
theorem Tryz.a6C:Go.Proofs.Lays.n149 prog Tryz.PK:=by
 constructor<;>intros<;>first|kernel_rfl|constructor<;>intros<;>first|kernel_rfl|constructor<;>intros<;>kernel_rfl
open Go.RowKit Go.Lib in
theorem Tryz.strings_LastIndexByte (s:ByteArray)(c:Int)(hs:s.size<4611686018427387904)(w:World):
  Calls prog 225 #[.string s,.int .u8 c] w λe w'=>e=.returned (.int .i64 (Lib.lastIndexByte s c))/\w'=w:=Any.strings_LastIndexByte Tryz.a6C s c hs w
def Tryz.MM:Go.Shelf.Ren:=⟨λ|17=>180|15=>248|20=>310|n=>n,λ|9=>9|23=>283|4=>4|3=>3|0=>0|21=>21|n=>n,λ|n=>n⟩
theorem Tryz.a1K:Go.Proofs.LaysGw.n17 prog Tryz.MM:=by
 constructor<;>intros<;>first|kernel_rfl|constructor<;>intros<;>first|kernel_rfl|constructor<;>intros<;>kernel_rfl
open Go.RowKit Go.Lib in
theorem Tryz.strings_ContainsFunc (g:Nat)(lb:Array Value)(a:∀args w,(callFunc g args).run prog w=.ok (.enter g args) w)(p:Nat->Bool)(s:ByteArray)(w:World)(hp:PredAt prog g lb encR p w):
  Calls prog 180 #[.string s,.func (.func g) #[] lb] w λe w'=>e=.returned (.bool (decide (0<=Lib.idxFunc p true s)))/\Below w.heap.size w w':=Any.strings_ContainsFunc Tryz.a1K g lb a p s w hp
def Tryz.Uc:Go.Shelf.Ren:=⟨λ|99=>202|206=>271|n=>n,λ|9=>9|4=>4|3=>3|n=>n,λ|n=>n⟩
theorem Tryz.ab2:Go.Proofs.Lays.n99 prog Tryz.Uc:=by
 constructor<;>intros<;>first|kernel_rfl|constructor<;>intros<;>first|kernel_rfl|constructor<;>intros<;>kernel_rfl
open Go.RowKit Go.Lib in
theorem Tryz.strings_HasPrefix (s p:ByteArray)(w:World):
  Calls prog 202 #[.string s,.string p] w λe w'=>e=.returned (.bool (Lib.hasPrefix s.data.toList p.data.toList))/\w'=w:=Any.strings_HasPrefix Tryz.ab2 s p w
def Tryz.PR:Go.Shelf.Ren:=⟨λ|221=>336|268=>362|138=>151|143=>153|195=>219|197=>155|218=>220|219=>175|260=>222|217=>237|225=>238|224=>239|267=>240|266=>303|314=>304|n=>n,λ|9=>9|3=>3|31=>22|4=>4|0=>0|105=>262|21=>21|5=>5|46=>321|119=>362|139=>365|138=>364|146=>382|51=>359|n=>n,λ|1=>12|3=>14|4=>15|n=>n⟩
theorem Tryz.a6D:Go.Proofs.Lays.n221 prog Tryz.PR:=by
 constructor<;>intros<;>first|kernel_rfl|constructor<;>intros<;>first|kernel_rfl|constructor<;>intros<;>kernel_rfl
def Tryz.DT:Go.Shelf.Ren:=⟨λ|155=>48|154=>90|138=>151|165=>152|143=>153|166=>154|197=>155|169=>94|195=>219|218=>220|240=>156|241=>221|219=>175|260=>222|276=>223|277=>284|217=>237|225=>238|224=>239|267=>240|266=>303|314=>304|n=>n,λ|9=>9|3=>3|4=>4|72=>187|0=>0|76=>248|105=>262|21=>21|5=>5|70=>184|20=>20|37=>185|75=>25|127=>264|164=>124|46=>321|119=>362|139=>365|138=>364|146=>382|51=>359|80=>101|n=>n,λ|1=>12|3=>14|4=>15|n=>n⟩
theorem Tryz.a6E:Go.Proofs.Lays.n155 prog Tryz.DT:=by
 constructor<;>intros<;>first|kernel_rfl|constructor<;>intros<;>first|kernel_rfl|constructor<;>intros<;>kernel_rfl
theorem Tryz.Ao:Builder.Extra prog Tryz.DT:={
 sizeBuilder:=by kernel_rfl
 liesBuilder:=by kernel_rfl
 t5:=underlying5
 a5:=Tryz.isAgg5
 z5:=Tryz.sizeOf5
 v5:=Tryz.zeroValue5
 infoByte:=by kernel_rfl
 cellsByte:=by kernel_rfl
 sizeByte:=by kernel_rfl
 neB5:=by decide}
open Go.RowKit Go.Lib in
theorem Tryz.strings_ReplaceAll (s a b:ByteArray)(m:Int)(w:World)(hs:s.size<4294967281)(d:w.cell? ⟨12,0,none⟩=some (.int .i64 m))(f:1<=a.size)(c:s.size+Lib.countB s a*b.size<=140737488355328):
  Calls prog 48 #[.string s,.string a,.string b] w λe w'=>
   e=.returned (.string ⟨(Lib.replaceAll s.data.toList a.data.toList b.data.toList).toArray⟩)/\Below w.heap.size w w':=Any.strings_ReplaceAll Tryz.a6E Tryz.Ao s a b m w hs d f c
def Tryz.PU:Go.Shelf.Ren:=⟨λ|152=>286|137=>200|119=>334|224=>239|225=>238|217=>237|266=>303|n=>n,λ|9=>9|21=>21|3=>3|4=>4|5=>5|0=>0|46=>321|n=>n,λ|n=>n⟩
theorem Tryz.a6F:Go.Proofs.Lays.n152 prog Tryz.PU:=by
 constructor<;>intros<;>first|kernel_rfl|constructor<;>intros<;>first|kernel_rfl|constructor<;>intros<;>kernel_rfl
open Go.RowKit Go.Lib in
theorem Tryz.strings_IndexRune_ascii (s:ByteArray)(r:Int)(w:World)(a:0<=r)(b:r<128):
  Calls prog 286 #[.string s,.int .i32 r] w λe w'=>e=.returned (.int .i64 (Lib.indexByte s.data.toList r.toNat.toUInt8))/\w'=w:=Any.strings_IndexRune_ascii Tryz.a6F s r w a b
def Tryz.PV:Go.Shelf.Ren:=⟨λ|226=>287|n=>n,λ|3=>3|4=>4|n=>n,λ|n=>n⟩
theorem Tryz.a6G:Go.Proofs.Lays.n226 prog Tryz.PV:=by
 constructor<;>intros<;>first|kernel_rfl|constructor<;>intros<;>first|kernel_rfl|constructor<;>intros<;>kernel_rfl
open Go.RowKit Go.Lib in
theorem Tryz.strings_shouldUseASCIISet (n:Int)(w:World):
  Calls prog 287 #[.int .i64 n] w λe w'=>e=.returned (.bool (decide (8<n)))/\w'=w:=Any.strings_shouldUseASCIISet Tryz.a6G n w
def Tryz.PY:Go.Shelf.Ren:=⟨λ|153=>227|152=>286|226=>287|227=>288|228=>289|137=>200|119=>334|224=>239|225=>238|217=>237|266=>303|n=>n,λ|9=>9|3=>3|4=>4|5=>5|21=>21|117=>369|116=>368|0=>0|46=>321|124=>419|n=>n,λ|n=>n⟩
theorem Tryz.a6H:Go.Proofs.Lays.n153 prog Tryz.PY:=by
 constructor<;>intros<;>first|kernel_rfl|constructor<;>intros<;>first|kernel_rfl|constructor<;>intros<;>kernel_rfl
open Go.RowKit Go.Lib in
theorem Tryz.strings_IndexAny_long (d:∀w,(zeroValue 368).run prog w=.ok (.agg (Array.replicate 256 (.bool false))) w)(s a:ByteArray)(w:World)(f:2<=a.size)(g:8<s.size)(hs:s.size<4294967281)(hcs:a.size<4294967281)(c:∀(j:Nat) b,a.data.toList[j]? =some b->b.toNat<128):
  Calls prog 227 #[.string s,.string a] w λe w'=>e=.returned (.int .i64 (Lib.indexAny s.data.toList a.data.toList))/\w'=((w.alloc (.cells (Lib.setCells a.data.toList) 368)).alloc (.cells (Lib.setCells a.data.toList) 368)):=Any.strings_IndexAny_long Tryz.a6H d (by kernel_rfl) s a w f g hs hcs c
def Tryz.PZ:Go.Shelf.Ren:=⟨λ|110=>290|109=>335|n=>n,λ|31=>22|9=>9|4=>4|3=>3|0=>0|n=>n,λ|n=>n⟩
theorem Tryz.a6I:Go.Proofs.Lays.n110 prog Tryz.PZ:=by
 constructor<;>intros<;>first|kernel_rfl|constructor<;>intros<;>first|kernel_rfl|constructor<;>intros<;>kernel_rfl
open Go.Lib in
theorem Tryz.slices_Contains_string (b off n c:Nat)(a:List ByteArray)(x:ByteArray)(w:World)(f:n<=a.length)(d:n<=9223372036854775807)(hc:∀j,j<a.length->w.cell? ⟨b,off+j,none⟩=some (.string (a.getD j ByteArray.empty))):
  Calls prog 290 #[.slice (some ⟨b,off,none⟩) n c,.string x] w λe w'=>e=.returned (.bool (Lib.containsS (a.take n) x))/\w'=w:=Any.slices_Contains_string Tryz.a6I b off n c a x w f d hc
end Go.Proofs
namespace Go.Proofs.YtbkjmamcnflncaaGreatDoor
open Go.Proofs.Tryz
set_option maxHeartbeats 8000000
section
open Go.RowKit
def ahead (c:UInt8):List UInt8->List UInt8
 |[]=>[]
 |b::l=>if b=c then[] else b::ahead c l
def behind (c:UInt8):List UInt8->Option (List UInt8)
 |[]=>none
 |b::l=>if b=c then some l else behind c l
theorem index_none (c:UInt8):∀l:List UInt8,behind c l=none->Lib.indexByte l c= -1/\ahead c l=l
 |[],_=>⟨rfl,rfl⟩
 |b::l,h=>by
  unfold behind at h;split at h
  .cases h
  .rename_i a;obtain⟨d,e⟩:=index_none c l h;unfold Lib.indexByte ahead;grind
theorem uL (c:UInt8):∀(l r:List UInt8),behind c l=some r->∃i:Nat,Lib.indexByte l c=i/\i<l.length/\l.take i=ahead c l/\l.drop (i+1)=r
 |[],_,h=>by cases h
 |b::l,r,h=>by
  unfold behind at h;split at h
  .rename_i a;subst a;cases h;exact⟨0,by unfold Lib.indexByte;simp,aI,by unfold ahead;simp,rfl⟩
  .rename_i a;obtain⟨i,d,e,f,g⟩:=uL c l r h;refine⟨i+1,?_,by simpa using e,?_,by simpa using g⟩
   .unfold Lib.indexByte;have:((i:Int)== -1)=false:=by rw[dW];omega
    simp[a,d,this]
   .unfold ahead;simp[a,f]
theorem ext_list {s t:aO}(h:s.data.toList=t.data.toList):s=t:=by
 apply ByteArray.ext;exact Array.toList_inj.1 h
theorem a1L (s:aO)(w:ai)(h:behind 47 s.data.toList=none):
  aL 113 #[au s,au ⟨#[47]⟩] w λe w'=>e=ay (aH #[au s,au ⟨#[]⟩,.bool false])/\∃k,w'=w.drewN k:=by
 obtain⟨b,_⟩:=index_none 47 _ h;have a:=Tryz.stringslite_Index_one s 47;rw[b] at a;have c:=aF a;clear a b h;go_enter func113,ntmps113;go_wp2_with(go_at_call 175;refine(c.out _).mono ?_;rintro e w' ⟨rfl,rfl⟩);go_ret3;exact⟨rfl,0,rfl⟩
theorem a1M (s a b:aO)(w:ai)(d:behind 47 s.data.toList=some b.data.toList)(f:ahead 47 s.data.toList=a.data.toList)(n:s.size<=9223372036854775807):
  aL 113 #[au s,au ⟨#[47]⟩] w λe w'=>e=ay (aH #[au a,au b,.bool true])/\∃k,w'=w.drewN k:=by
 obtain⟨i,g,l,h,j⟩:=uL 47 _ _ d;rw[mH] at l;have c:=Tryz.stringslite_Index_one s 47;rw[g] at c;have m:=aF c;have o:s.extract 0 i=a:=ext_list (by rw[Lib.extract_data];simpa[f] using h);have p:s.extract (i+1) s.size=b:=ext_list (by rw[Lib.extract_to_end];exact j);clear c g h j f d;have q:(0:Int)<=(i:Int):=aa;go_enter func113,ntmps113;go_wp2_with(go_at_call 175;refine(m.out _).mono ?_;rintro e w' ⟨rfl,rfl⟩)
 go_quiet (fail)
 go_wp2;go_ret3;exact⟨rfl,_,rfl⟩
theorem Gm (s:aO)(w:ai)(h:behind 47 s.data.toList=none):
  aL 59 #[au s,au ⟨#[47]⟩] w λe w'=>e=ay (aH #[au s,au ⟨#[]⟩,.bool false])/\∃k,w'=w.drewN k:=by
 have a:=aF h;clear h;go_enter func59,ntmps59;go_wp2_with(go_at_call 113;refine(a1L s _ a.out).mono ?_;rintro e w' ⟨rfl,k,rfl⟩);go_ret3;exact⟨rfl,_,rfl⟩
theorem wK (s a b:aO)(w:ai)(c:behind 47 s.data.toList=some b.data.toList)(d:ahead 47 s.data.toList=a.data.toList)(f:s.size<=9223372036854775807):
  aL 59 #[au s,au ⟨#[47]⟩] w λe w'=>e=ay (aH #[au a,au b,.bool true])/\∃k,w'=w.drewN k:=by
 have g:=aF c;have h:=aF d;clear d c;go_enter func59,ntmps59;go_wp2_with(go_at_call 113;refine(a1M s a b _ g.out h.out f).mono ?_;rintro e w' ⟨rfl,k,rfl⟩);go_ret3;exact⟨rfl,_,rfl⟩
def qU (l:List UInt8):Option Int:=
 if Ak (Lib.trimPrefix l [45])=true/\¬(Lib.hasPrefix l [45]=true/\val (Lib.trimPrefix l [45])=0) then some (if Lib.hasPrefix l [45]=true then -(val (Lib.trimPrefix l [45]):Int) else val (Lib.trimPrefix l [45])) else none
theorem zo {l:List UInt8}(h:Ak l=true):(val l:Int)<10000000000:=by
 unfold Ak at h;rw[jg] at h;have:=ab1 h.2 (Gh.1 h.1).2.1;omega
theorem mM (s:aO)(b:Bool)(v:Int)(w:ai)(a:Ak s.data.toList=b)(c:(if b=true then(val s.data.toList:Int) else 0)=v):
  aL 351 #[au s] w λe w'=>e=ay (aH #[ag v,.bool b])/\w'=w:=by
 subst a;subst c;exact Gj s w
theorem qb (s t:aO)(b:Bool)(w:ai)(a:Lib.trimPrefix s.data.toList [45]=t.data.toList)(c:Lib.hasPrefix s.data.toList [45]=b):
  aL 198 #[au s,au ⟨#[45]⟩] w λe w'=>e=ay (aH #[au t,.bool b])/\w'=w:=by
 have:=Tryz.strings_CutPrefix s ⟨#[45]⟩ w;have e:(⟨(Lib.trimPrefix s.data.toList [45]).toArray⟩:aO)=t:=ext_list (by rw[a]);grind
theorem DU (s:aO)(b:Bool)(v:Int)(w:ai)(h:qU s.data.toList=none/\b=false/\v=0\/qU s.data.toList=some v/\b=true):
  aL 350 #[au s] w λe w'=>e=ay (aH #[ag v,.bool b])/\w'=w:=by
 obtain⟨t,o⟩:∃t:aO,Lib.trimPrefix s.data.toList [45]=t.data.toList:=⟨⟨(Lib.trimPrefix s.data.toList [45]).toArray⟩,aI⟩;obtain⟨g,p⟩:∃g,Lib.hasPrefix s.data.toList [45]=g:=⟨_,rfl⟩;obtain⟨d,i⟩:∃d,Ak t.data.toList=d:=⟨_,rfl⟩;have f:=h;unfold qU at f;rw[o,p,i] at f;have k:=aF o;have l:=aF p;clear h o p;cases d with
 |false=>
  obtain⟨rfl,rfl⟩:b=false/\v=0:=by rcases f with⟨_,a,c⟩|⟨a,_⟩;exact⟨a,c⟩;simp at a
  have j:=aF i;clear f i;go_enter func350,ntmps350;go_wp2_with(first|(go_at_call 198;refine(qb s t g _ k.out l.out).mono ?_;rintro e w' ⟨rfl,rfl⟩)|(go_at_call 351;refine(mM t false 0 _ j.out aI).mono ?_;rintro e w' ⟨rfl,rfl⟩))
  go_ret2
  exact⟨rfl,rfl⟩
 |true=>
  have u:=zo i;obtain⟨m,q⟩:∃m:Nat,val t.data.toList=m:=⟨_,rfl⟩;rw[q] at f u;have j:=aF i;have r:Hid ((if true=true then(val t.data.toList:Int) else 0)=m):=by show _=_;rw[aR rfl,q]
  clear i q;cases g with
  |false=>
   obtain⟨rfl,rfl⟩:b=true/\v=m:=by
    rcases f with⟨a,_,_⟩|⟨a,c⟩
    .simp at a
    .simp at a;exact⟨c,a.symm⟩
   clear f;go_enter func350,ntmps350;go_wp2_with(first|(go_at_call 198;refine(qb s t false _ k.out l.out).mono ?_;rintro e w' ⟨rfl,rfl⟩)|(go_at_call 351;refine(mM t true m _ j.out r.out).mono ?_;rintro e w' ⟨rfl,rfl⟩))
   go_ret2
   exact⟨rfl,rfl⟩
  |true=>
   by_cases n:m=0
   .subst n;obtain⟨rfl,rfl⟩:b=false/\v=0:=by
     rcases f with⟨_,a,c⟩|⟨a,_⟩
     .exact⟨a,c⟩
     .simp at a
    clear f;go_enter func350,ntmps350;go_wp2_with(first|(go_at_call 198;refine(qb s t true _ k.out l.out).mono ?_;rintro e w' ⟨rfl,rfl⟩)|(go_at_call 351;refine(mM t true 0 _ j.out r.out).mono ?_;rintro e w' ⟨rfl,rfl⟩))
    go_ret2
    exact⟨rfl,rfl⟩
   .obtain⟨rfl,rfl⟩:b=true/\v= -(m:Int):=by
     rcases f with⟨a,_,_⟩|⟨a,c⟩
     .simp[n] at a
     .simp[n] at a;exact⟨c,a.symm⟩
    have x:((m:Int)==0)=false:=by rw[dW];omega
    have y:wrap64 (-(m:Int))= -(m:Int):=IntWalk.wrap64_in _ ⟨aa,aa⟩;clear f n;go_enter func350,ntmps350;go_wp2_with(first|(go_at_call 198;refine(qb s t true _ k.out l.out).mono ?_;rintro e w' ⟨rfl,rfl⟩)|(go_at_call 351;refine(mM t true m _ j.out r.out).mono ?_;rintro e w' ⟨rfl,rfl⟩))
    go_ret2
    exact⟨rfl,rfl⟩
def ck (n d:Int):R3:=if fV n d=0 then⟨n,d,0⟩ else⟨0,0,fV n d⟩
def rd (l:List UInt8):R3:=
 match qU (ahead 47 l) with
 |none=>⟨0,0,1⟩
 |some n=>match behind 47 l with
  |none=>ck n 1
  |some b=>if Ak b=true/\val b≠1 then ck n (val b) else⟨0,0,1⟩
def TA (aT aB aS aZ:Addr)(c:Nat):ax:=if c=1 then aU 453 (.pointer (some aT)) else er aB aS aZ c
theorem Ap {l:List UInt8}{v:Int}(h:qU l=some v): -10000000000<v/\v<10000000000:=by
 unfold qU at h;split at h
 .rename_i a;have:=zo a.1;grind
 .cases h
theorem Q4 (s:aO)(w:ai)(h:qU s.data.toList=none):
  aL 350 #[au s] w λe w'=>e=ay (aH #[ag 0,.bool false])/\w'=w:=DU s false 0 w (Or.inl ⟨h,rfl,rfl⟩)
theorem tL (s:aO)(v:Int)(w:ai)(h:qU s.data.toList=some v):
  aL 350 #[au s] w λe w'=>e=ay (aH #[ag v,.bool true])/\w'=w:=DU s true v w (Or.inr ⟨h,rfl⟩)
theorem Q5 (aB aS aZ:Addr)(n d:Int)(w:ai)(a: -9223372036854775808<=n)(b:n<=9223372036854775807)(c: -9223372036854775808<=d)(f:d<=9223372036854775807)(h:E3 aB aS aZ w)(hc:fV n d=0):
  aL 253 #[ag n,ag d] w λe w'=>e=ay aY/\∃k,w'=w.drewN k:=by
 have:=C9 aB aS aZ n d w a b c f h;rw[hc] at this;exact this
theorem Q6 (aB aS aZ:Addr)(n d:Int)(a:Addr)(w:ai)(b: -9223372036854775808<=n)(c:n<=9223372036854775807)(f: -9223372036854775808<=d)(g:d<=9223372036854775807)(h:E3 aB aS aZ w)(hc:er aB aS aZ (fV n d)=aU 453 (.pointer (some a))):
  aL 253 #[ag n,ag d] w λe w'=>e=ay (aU 453 (.pointer (some a)))/\∃k,w'=w.drewN k:=by
 rw[<- hc];exact C9 aB aS aZ n d w b c f g h
theorem a1N (aT aB aS aZ:Addr){c:Nat}(h:c≠1):TA aT aB aS aZ c=er aB aS aZ c:=by unfold TA;rw[aG h]
theorem YH (aT aB aS aZ:Addr)(s:aO)(w:ai)(h:E3 aB aS aZ w)(j:w.cell? (aJ 1 0)=some (aU 453 (.pointer (some aT))))(d:behind 47 s.data.toList=none):
  aL 319 #[au s] w λe w'=>e=ay (aH #[.agg #[ag (rd s.data.toList).n,ag (rd s.data.toList).d],TA aT aB aS aZ (rd s.data.toList).c])/\aD w w':=by
 have l:=(index_none 47 _ d).2;have p:=aF d;have b:=aX j;simp only at b;have t:¬1=w.heap.size:=aa;have u:∀o,(w.alloc o).cell? (aJ 1 0)=some (aU 453 (.pointer (some aT))):=λo=>by
  rw[qM _ _ ⟨1,0,none⟩ b];exact j
 cases c:qU s.data.toList with
 |none=>
  have f:rd s.data.toList=⟨0,0,1⟩:=by unfold rd;rw[l,c]
  rw[f];have m:=aF c;clear c f l d j b;go_enter func319,ntmps319;go_wp2_with(first|(go_at_call 59;refine(Gm s _ p.out).mono ?_;rintro e w' ⟨rfl,k,rfl⟩)|(go_at_call 350;refine(Q4 s _ m.out).mono ?_;rintro e w' ⟨rfl,rfl⟩));go_region;go_wp2;refine bg (v:=aH #[.agg #[ag 0,ag 0],aU 453 (.pointer (some aT))]) (by simp[results,results319,go_sem]) rfl ⟨rfl,?_⟩
  first|exact below_drewN ((aW _ _).alloc az _) _|exact((below_drewN ((aW _ _).alloc az _) _).setCell aI _).setCell aI _
 |some n=>
  have f:rd s.data.toList=ck n 1:=by unfold rd;rw[l,c,d]
  rw[f];have m:=aF c;obtain⟨y,z⟩:=Ap c;clear c f l d j b;by_cases g:fV n 1=0
  .have e:ck n 1=⟨n,1,0⟩:=by unfold ck;rw[aR g]
   rw[e];have q:=aF g;clear e g;go_enter func319,ntmps319;go_wp2_with(first|(go_at_call 59;refine(Gm s _ p.out).mono ?_;rintro e w' ⟨rfl,k,rfl⟩)|(go_at_call 350;refine(tL s n _ m.out).mono ?_;rintro e w' ⟨rfl,rfl⟩)|(go_at_call 253;refine(Q5 aB aS aZ _ _ _ aa aa aa aa ?_ q.out).mono ?_;exact(h.alloc _).drewN _;rintro e w' ⟨rfl,x,rfl⟩));refine bg (v:=aH #[.agg #[ag n,ag 1],aY]) (by simp[results,results319,go_sem]) rfl ⟨rfl,?_⟩
   first|exact below_drewN ((aW _ _).alloc az _) _|exact((below_drewN ((aW _ _).alloc az _) _).setCell aI _).setCell aI _
  .have i:fV n 1=2\/fV n 1=3:=by rcases iD n 1 with e|e|e<;>simp_all
   have e:ck n 1=⟨0,0,fV n 1⟩:=by unfold ck;rw[aG g]
   obtain⟨a,r⟩:=jy aB aS aZ i;rw[e];simp only;rw[a1N aT aB aS aZ (show fV n 1≠1 by omega),r];have q:=aF r;clear e g i r;go_enter func319,ntmps319;go_wp2_with(first|(go_at_call 59;refine(Gm s _ p.out).mono ?_;rintro e w' ⟨rfl,k,rfl⟩)|(go_at_call 350;refine(tL s n _ m.out).mono ?_;rintro e w' ⟨rfl,rfl⟩)|(go_at_call 253;refine(Q6 aB aS aZ _ _ a _ aa aa aa aa ?_ q.out).mono ?_;exact(h.alloc _).drewN _;rintro e w' ⟨rfl,x,rfl⟩));refine bg (v:=aH #[.agg #[ag 0,ag 0],aU 453 (.pointer (some a))]) (by simp[results,results319,go_sem]) rfl ⟨rfl,?_⟩
   first|exact below_drewN ((aW _ _).alloc az _) _|exact((below_drewN ((aW _ _).alloc az _) _).setCell aI _).setCell aI _
theorem YI (aT aB aS aZ:Addr)(s a b:aO)(w:ai)(h:E3 aB aS aZ w)(z:w.cell? (aJ 1 0)=some (aU 453 (.pointer (some aT))))(A:behind 47 s.data.toList=some b.data.toList)(l:ahead 47 s.data.toList=a.data.toList)(m:s.size<=9223372036854775807):
  aL 319 #[au s] w λe w'=>e=ay (aH #[.agg #[ag (rd s.data.toList).n,ag (rd s.data.toList).d],TA aT aB aS aZ (rd s.data.toList).c])/\aD w w':=by
 have p:=aF A;have q:=aF l;have c:=aX z;simp only at c;have E:¬1=w.heap.size:=aa;have H:∀o,(w.alloc o).cell? (aJ 1 0)=some (aU 453 (.pointer (some aT))):=λo=>by
  rw[qM _ _ ⟨1,0,none⟩ c];exact z
 cases g:qU a.data.toList with
 |none=>
  have r:rd s.data.toList=⟨0,0,1⟩:=by unfold rd;rw[l,g]
  rw[r];have j:=aF g;clear g r l A z c;go_enter func319,ntmps319;go_wp2_with(first|(go_at_call 59;refine(wK s a b _ p.out q.out m).mono ?_;rintro e w' ⟨rfl,k,rfl⟩)|(go_at_call 350;refine(Q4 a _ j.out).mono ?_;rintro e w' ⟨rfl,rfl⟩));go_region;go_wp2;refine bg (v:=aH #[.agg #[ag 0,ag 0],aU 453 (.pointer (some aT))]) (by simp[results,results319,go_sem]) rfl ⟨rfl,?_⟩
  first|exact below_drewN ((aW _ _).alloc az _) _|exact((below_drewN ((aW _ _).alloc az _) _).setCell aI _).setCell aI _
 |some n=>
  have r:rd s.data.toList=if Ak b.data.toList=true/\val b.data.toList≠1 then ck n (val b.data.toList) else⟨0,0,1⟩:=by unfold rd;rw[l,g,A]
  rw[r];have j:=aF g;obtain⟨L,M⟩:=Ap g;clear g r l A z c;cases t:Ak b.data.toList with
  |false=>
   rw[aG aI];have u:=aF t;clear t;go_enter func319,ntmps319;go_wp2_with(first|(go_at_call 59;refine(wK s a b _ p.out q.out m).mono ?_;rintro e w' ⟨rfl,k,rfl⟩)|(go_at_call 350;refine(tL a n _ j.out).mono ?_;rintro e w' ⟨rfl,rfl⟩)|(go_at_call 351;refine(mM b false 0 _ u.out aI).mono ?_;rintro e w' ⟨rfl,rfl⟩));go_region;go_wp2;refine bg (v:=aH #[.agg #[ag 0,ag 0],aU 453 (.pointer (some aT))]) (by simp[results,results319,go_sem]) rfl ⟨rfl,?_⟩
   first|exact below_drewN ((aW _ _).alloc az _) _|exact((below_drewN ((aW _ _).alloc az _) _).setCell aI _).setCell aI _
  |true=>
   have I:=zo t;obtain⟨d,f⟩:∃d:Nat,val b.data.toList=d:=⟨_,rfl⟩;rw[f];rw[f] at I;have u:=aF t;have B:Hid ((if true=true then(val b.data.toList:Int) else 0)=d):=by show _=_;rw[aR rfl,f]
   clear t f;by_cases i:d=1
   .subst i;rw[aG aI];go_enter func319,ntmps319;go_wp2_with(first|(go_at_call 59;refine(wK s a b _ p.out q.out m).mono ?_;rintro e w' ⟨rfl,k,rfl⟩)|(go_at_call 350;refine(tL a n _ j.out).mono ?_;rintro e w' ⟨rfl,rfl⟩)|(go_at_call 351;refine(mM b true 1 _ u.out B.out).mono ?_;rintro e w' ⟨rfl,rfl⟩));go_region;go_wp2;refine bg (v:=aH #[.agg #[ag 0,ag 0],aU 453 (.pointer (some aT))]) (by simp[results,results319,go_sem]) rfl ⟨rfl,?_⟩
    first|exact below_drewN ((aW _ _).alloc az _) _|exact((below_drewN ((aW _ _).alloc az _) _).setCell aI _).setCell aI _
   .rw[aR ⟨rfl,i⟩];have J:((d:Int)==1)=false:=by rw[dW];omega
    clear i;by_cases x:fV n d=0
    .have e:ck n d=⟨n,d,0⟩:=by unfold ck;rw[aR x]
     rw[e];have C:=aF x;clear e x;go_enter func319,ntmps319;go_wp2_with(first|(go_at_call 59;refine(wK s a b _ p.out q.out m).mono ?_;rintro e w' ⟨rfl,k,rfl⟩)|(go_at_call 350;refine(tL a n _ j.out).mono ?_;rintro e w' ⟨rfl,rfl⟩)|(go_at_call 351;refine(mM b true d _ u.out B.out).mono ?_;rintro e w' ⟨rfl,rfl⟩)|(go_at_call 253;refine(Q5 aB aS aZ _ _ _ aa aa aa aa ?_ C.out).mono ?_;exact(h.alloc _).drewN _;rintro e w' ⟨rfl,K,rfl⟩));refine bg (v:=aH #[.agg #[ag n,ag d],aY]) (by simp[results,results319,go_sem]) rfl ⟨rfl,?_⟩
     first|exact below_drewN ((aW _ _).alloc az _) _|exact((below_drewN ((aW _ _).alloc az _) _).setCell aI _).setCell aI _
    .have y:fV n d=2\/fV n d=3:=by rcases iD n d with e|e|e<;>simp_all
     have e:ck n d=⟨0,0,fV n d⟩:=by unfold ck;rw[aG x]
     obtain⟨F,D⟩:=jy aB aS aZ y;rw[e];simp only;rw[a1N aT aB aS aZ (show fV n d≠1 by omega),D];have C:=aF D;clear e x y D;go_enter func319,ntmps319;go_wp2_with(first|(go_at_call 59;refine(wK s a b _ p.out q.out m).mono ?_;rintro e w' ⟨rfl,k,rfl⟩)|(go_at_call 350;refine(tL a n _ j.out).mono ?_;rintro e w' ⟨rfl,rfl⟩)|(go_at_call 351;refine(mM b true d _ u.out B.out).mono ?_;rintro e w' ⟨rfl,rfl⟩)|(go_at_call 253;refine(Q6 aB aS aZ _ _ F _ aa aa aa aa ?_ C.out).mono ?_;exact(h.alloc _).drewN _;rintro e w' ⟨rfl,K,rfl⟩));refine bg (v:=aH #[.agg #[ag 0,ag 0],aU 453 (.pointer (some F))]) (by simp[results,results319,go_sem]) rfl ⟨rfl,?_⟩
     first|exact below_drewN ((aW _ _).alloc az _) _|exact((below_drewN ((aW _ _).alloc az _) _).setCell aI _).setCell aI _
theorem xK (aT aB aS aZ:Addr)(s:aO)(w:ai)(h:E3 aB aS aZ w)(a:w.cell? (aJ 1 0)=some (aU 453 (.pointer (some aT))))(d:s.size<=9223372036854775807):
  aL 319 #[au s] w λe w'=>e=ay (aH #[.agg #[ag (rd s.data.toList).n,ag (rd s.data.toList).d],TA aT aB aS aZ (rd s.data.toList).c])/\aD w w':=by
 cases c:behind 47 s.data.toList with
 |none=>exact YH aT aB aS aZ s w h a c
 |some b=>exact YI aT aB aS aZ s ⟨(ahead 47 s.data.toList).toArray⟩ ⟨b.toArray⟩ w h a (by rw[c]) rfl d
theorem ownsRow_below {w w':ai}{a:Nat}{e:TypeId}{b n:Nat}{v:ax}{i:List ax}(h:w.ownsRow a e b v n i)(k:aD w w'):w'.ownsRow a e b v n i:=by
 obtain⟨l,c⟩:=h;refine⟨l,?_⟩;rcases c with c|⟨g,d,f,m,o,j,p⟩
 .exact .inl c
 .exact .inr ⟨g,d,f,m,o,(k.block g (eY.1 j).1).trans j,p⟩
theorem wL {w:ai}{b:Nat}{e:TypeId}{c n:Nat}{v:ax}{f:List ax}(h:w.ownsRow b e c v (n+1) f):∃g a,v=aj (some ⟨g,0,none⟩) (n+1) a/\b<=g/\g<w.heap.size/\n+1<=a/\a<=maxLen/\∀j u,f[j]? =some u->w.cell? (aJ g j)=some u:=by
 obtain⟨t,i⟩:=h;rcases i with⟨_,i⟩|⟨g,a,d,l,m,k,o,p,x,q⟩
 .omega
 .refine⟨g,a,l,m,(eY.1 k).1,o,p,λj u r=>?_⟩;rw[<- q] at r;have s:d[j]? =some u:=by grind
  simp[World.cell?,k,s]
theorem gM.grown {w w':ai}{R:Nat}{cs:Array ax}{t:TypeId}{a:Option Nat}(h:gM w R cs t)(b:w.grownBy w' a)(c:a≠some R):gM w' R cs t:=⟨(b.block R h.lt (λe=>c e.symm)).trans h.h⟩
theorem Ue {w:ai}{a:Nat}{e:TypeId}{b n:Nat}{v:ax}{d:List ax}(h:w.ownsRow a e b v n d):∀k,v.ownBlock=some k->a<=k:=by
 obtain⟨_,f⟩:=h;rcases f with⟨rfl,_⟩|⟨g,i,j,rfl,l,_⟩
 .intro k c;cases c
 .intro k c;simp only[Value.ownBlock] at c;cases c;exact l
theorem Gn:(prog.info? 163).map (λi=>(i.zero,i.size,i.bytes))=some (some (.agg #[ag 0,ag 0]),2,16):=aA
theorem a6J {x y:Int}:∀u∈[Value.int .i64 x,ag y],u.oneCell'=true:=λu a=>by
 simp at a;rcases a with rfl|rfl<;>rfl
theorem MN {w:ai}{x y:ax}{t:TypeId}{B:Nat}(b:B=w.heap.size):∀(j:Nat) (u:ax),[x,y][j]? =some u->(w.alloc (ak #[x,y] t)).cell? ((⟨B,0,none⟩:Addr).add j)=some u:=λj u a=>by
 match j,a with
 |0,a=>simp at a;subst a;exact dN b rfl
 |1,a=>simp at a;subst a;exact dN b rfl
 |j+2,a=>simp at a
theorem afi (F:Nat)(P:∀(H:Array ax) (w:ai),Sem.run prog (callFunc F H) w=.ok (.enter F H) w)(b o y B:Nat)(z A:aO)(f h:Fr)(r:Mv)(W:ai)(I:W.cell? (aJ B 0)=some (.func (.func F) #[] #[]))(Q:W.cell? (aJ b o)=some (au z))(J:W.cell? (aJ b (o+1))=some (au A))
  (S:∀V,aD W V->aL 319 #[au z] V λe w'=>e=ay (aH #[.agg #[ag f.n,ag f.d],aY])/\aD V w')
  (T:∀V,aD W V->aL 319 #[au A] V λe w'=>e=ay (aH #[.agg #[ag h.n,ag h.d],aY])/\aD V w')
  (C:∀V g c,aD W V->V.cell? (aJ g 0)=some (ag f.n)->V.cell? (aJ g 1)=some (ag f.d)->V.cell? (aJ g 2)=some (ag h.n)->V.cell? (aJ g 3)=some (ag h.d)->aL F #[aj (some ⟨g,0,none⟩) 2 c] V λe w'=>e=ay (mv r)/\aD V w'):
  aL 367 #[aj (some ⟨b,o,none⟩) 2 y,aK B] W λe w'=>e=ay (aH #[mv r,aY])/\aD W w':=by
 have K:=(aW W.heap.size W).alloc az (ak zA 165);have U:=gM.new W zA 165;have g1:=λo=>aN o Q;obtain⟨L,M,s,t,u⟩:=info_parts Gn;go_enter func367,ntmps367;go_wp2;refine wp_loop_rounds 3 ?_;rw[rounds_succ];go_wp2_with(first|(at_builtin;refine wpList_append_own_at _ rfl _ _ 402 rfl (W.heap.size+1) 163 L (.agg #[ag 0,ag 0]) 2 16 underlying402 M s t u rfl aC (aj none 0 0) 0 [] rfl X ⟨N.heap.size+1,0,none⟩ 1 1 [ag f.n,ag f.d] rfl rfl (MN aI) a6J (by unfold maxLen;omega) aa bq ?_;intro Y V1 l a _ Z;have D:=((L1.alloc aa _).alloc bq _).grown a bq (λk e=>by simp[Value.ownBlock] at e);have B2:=((B1.alloc _).alloc _).grown a (by simp[Value.ownBlock]);have z1:=a.size;simp only[dV] at z1;have g2:=(D.cell (p:=⟨b,o+1,none⟩) (aX J)).trans J)|(go_at_call_of 319 z;refine(S _ K).mono ?_;rintro e N ⟨rfl,m⟩;have TB:=m.size;simp only[dV] at TB;have L1:=(K.trans (m.mono aI));have B1:=U.below m az;have X:((N.alloc (ak #[ag f.n,ag f.d] 163)).alloc (ak #[ag f.n,ag f.d] 163)).ownsRow (W.heap.size+1) 163 2 (aj none 0 0) 0 []:=gp _ _ _ _));rw[rounds_succ];go_wp2_with(first|(at_builtin;refine wpList_append_own_at _ rfl _ _ 402 rfl (W.heap.size+1) 163 L (.agg #[ag 0,ag 0]) 2 16 underlying402 M s t u rfl aC Y 1 _ rfl O ⟨w2.heap.size+1,0,none⟩ 1 1 [ag h.n,ag h.d] rfl rfl (MN aI) a6J (by unfold maxLen;omega) aa bq ?_;intro v2 V2 n d _ a4;have x:=Ue O;have E:=((L3.alloc aa _).alloc bq _).grown d bq (λk e=>by have:=x k e;omega);have B4:=((B3.alloc _).alloc _).grown d (λe=>by have:=x _ e;omega);obtain⟨g,c2,rfl,a5,a6,a7,a8,i⟩:=wL n;have gB:=(E.cell (p:=⟨B,0,none⟩) (aX I)).trans I)|(go_at_call_of 319 A;refine(T _ D).mono ?_;rintro e w2 ⟨rfl,j⟩;have a9:=j.size;have L3:=D.trans (j.mono aa);have B3:=B2.below j az;have O:=((ownsRow_below l j).alloc (ak #[ag h.n,ag h.d] 163)).alloc (ak #[ag h.n,ag h.d] 163)))
 rw[rounds_succ];go_wp2_with((refine(C _ g c2 E (i 0 _ rfl) (i 1 _ rfl) (i 2 _ rfl) (i 3 _ rfl)).mono ?_;rintro e w5 ⟨rfl,q⟩;have b0:=q.size;have B5:=B4.below q az;obtain⟨vR,KQ,vS,KS,vT,KZ,vU,L8,zT,OU,zV,OV,zW,OX,zX,OY,zY,OZ,zZ,P6,mQ,wG,mV,wH⟩:=B5.six));refine bg (v:=aH #[mv r,aY]) (by simp[results,results367,go_sem,vR,vS,vT,vU,zT,zV,zW,zX,zY,zZ,mQ,mV]) rfl ⟨rfl,?_⟩;exact dB (R:=W.heap.size) az (mL r) 0 (E.trans (q.mono aa))
def Mv.shift (x y:Fr):Mv:=⟨.whole 1,.whole 0,.whole 0,.whole 1,x,y⟩
def Mv.scale (x y:Fr):Mv:=⟨x,.whole 0,.whole 0,y,.whole 0,.whole 0⟩
def Mv.skew (x:Fr):Mv:=⟨.whole 1,.whole 0,x,.whole 1,.whole 0,.whole 0⟩
def Mv.turn (c s:Int):Mv:=⟨.whole c,.whole s,.whole (-s),.whole c,.whole 0,.whole 0⟩
theorem YJ (g c:Nat)(a b:Fr)(W:ai)(i:W.cell? (aJ g 0)=some (ag a.n))(j:W.cell? (aJ g 1)=some (ag a.d))(k:W.cell? (aJ g 2)=some (ag b.n))(l:W.cell? (aJ g 3)=some (ag b.d)):
  aL 355 #[aj (some ⟨g,0,none⟩) 2 c] W λe w'=>e=ay (mv (Mv.shift a b))/\aD W w':=by
 have m:=uK;have n:=aX i;simp only at n;have q:=(aW W.heap.size W).alloc az (ak zA 165);have r:=gM.new W zA 165;go_enter func355,ntmps355;go_wp2_with(go_at_call 78;refine(m _).mono ?_;rintro e h ⟨rfl,d⟩;have f:=q.trans (d.mono aI);have s:=d.size;simp only[dV] at s;have t:=r.below d az;have I:¬h.heap.size=W.heap.size:=aa;have J:¬W.heap.size=h.heap.size:=aa;have K:¬g=h.heap.size:=aa;have L:¬h.heap.size=g:=aa;dsimp only[Mv.one,Fr.whole];have M:=λo=>aN o ((f.cell (p:=⟨g,0,none⟩) (aX i)).trans i);have N:=λo=>aN o ((f.cell (p:=⟨g,1,none⟩) (aX j)).trans j);have O:=λo=>aN o ((f.cell (p:=⟨g,2,none⟩) (aX k)).trans k);have P:=λo=>aN o ((f.cell (p:=⟨g,3,none⟩) (aX l)).trans l);obtain⟨u,Q,w,S,x,T,y,U,z,V,A,X,B,Y,C,Z,D,OZ,E,P6,F,wG,H,wH⟩:=t.a1B);go_region;go_wp2;refine bg (v:=mv (Mv.shift a b)) (by simp[results,results355,go_sem,Mv.shift,Fr.whole,u,w,x,y,z,A,B,C,D,E,F,H]) rfl ⟨rfl,?_⟩;exact below_drewN (dB (R:=W.heap.size) az [ag 1,ag 1,ag 0,ag 1,ag 0,ag 1,ag 1,ag 1,ag a.n,ag a.d,ag b.n,ag b.d] 0 (f.alloc aa (ak #[ag 1,ag 1,ag 0,ag 1,ag 0,ag 1,ag 1,ag 1,ag a.n,ag a.d,ag b.n,ag b.d] 165))) 1
theorem YK (g c:Nat)(a b:Fr)(W:ai)(i:W.cell? (aJ g 0)=some (ag a.n))(j:W.cell? (aJ g 1)=some (ag a.d))(k:W.cell? (aJ g 2)=some (ag b.n))(l:W.cell? (aJ g 3)=some (ag b.d)):
  aL 356 #[aj (some ⟨g,0,none⟩) 2 c] W λe w'=>e=ay (mv (Mv.scale a b))/\aD W w':=by
 have m:=uK;have n:=aX i;simp only at n;have q:=(aW W.heap.size W).alloc az (ak zA 165);have r:=gM.new W zA 165;go_enter func356,ntmps356;go_wp2_with(go_at_call 78;refine(m _).mono ?_;rintro e h ⟨rfl,d⟩;have f:=q.trans (d.mono aI);have s:=d.size;simp only[dV] at s;have t:=r.below d az;have I:¬h.heap.size=W.heap.size:=aa;have J:¬W.heap.size=h.heap.size:=aa;have K:¬g=h.heap.size:=aa;have L:¬h.heap.size=g:=aa;dsimp only[Mv.one,Fr.whole];have M:=λo=>aN o ((f.cell (p:=⟨g,0,none⟩) (aX i)).trans i);have N:=λo=>aN o ((f.cell (p:=⟨g,1,none⟩) (aX j)).trans j);have O:=λo=>aN o ((f.cell (p:=⟨g,2,none⟩) (aX k)).trans k);have P:=λo=>aN o ((f.cell (p:=⟨g,3,none⟩) (aX l)).trans l);obtain⟨u,Q,w,S,x,T,y,U,z,V,A,X,B,Y,C,Z,D,OZ,E,P6,F,wG,H,wH⟩:=t.a1B);go_region;go_wp2;refine bg (v:=mv (Mv.scale a b)) (by simp[results,results356,go_sem,Mv.scale,Fr.whole,u,w,x,y,z,A,B,C,D,E,F,H]) rfl ⟨rfl,?_⟩;exact below_drewN (dB (R:=W.heap.size) az [ag a.n,ag a.d,ag 0,ag 1,ag 0,ag 1,ag b.n,ag b.d,ag 0,ag 1,ag 0,ag 1] 0 (f.alloc aa (ak #[ag a.n,ag a.d,ag 0,ag 1,ag 0,ag 1,ag b.n,ag b.d,ag 0,ag 1,ag 0,ag 1] 165))) 1
attribute [local go_sem] jA
theorem Ci (s:aO)(hs:s.size<4294967281)(W:ai):
  aL 291 #[au s,au ⟨#[32]⟩] W λe w'=>e=ay (aj (some ⟨W.heap.size,0,none⟩) (Lib.countB s ⟨#[32]⟩+1) (Lib.countB s ⟨#[32]⟩+1))/\w'=W.alloc (ak ((Lib.splitB ⟨#[32]⟩ 0 (Lib.countB s ⟨#[32]⟩) s).map Value.string).toArray 9):=by
 have d:1<=(⟨#[32]⟩:aO).size:=aC;have g:=Lib.countB_le ⟨#[32]⟩ d s.size s az;have a:=Lib.splitB_all ⟨#[32]⟩ d 0 _ s rfl;have c:=Any.strings_genSplit_core Tryz.a6D aA s ⟨#[32]⟩ 0 (-1) (Lib.countB s ⟨#[32]⟩+1) W hs d (bA _)
  (λx c _=>(Any.strings_Index_one Tryz.a6z x 32 _).mono λe w' ⟨f,b⟩=>⟨by rw[f,<- Lib.index_one],b⟩)
  ((Any.strings_Count_one Tryz.a6B s 32 W).mono λe w' ⟨f,b⟩=>⟨by rw[f];show _=Ending.returned (Value.int .i64 ((Lib.count s.data.toList [32]:Nat):Int));rw[Lib.count_one];rfl,b⟩)
  aC aC (by rw[aR aC];omega)
 rw[Nat.add_sub_cancel,a] at c;have h:Lib.cellsOf (Lib.splitB ⟨#[32]⟩ 0 (Lib.countB s ⟨#[32]⟩) s) (Lib.countB s ⟨#[32]⟩+1)=((Lib.splitB ⟨#[32]⟩ 0 (Lib.countB s ⟨#[32]⟩) s).map Value.string).toArray:=by rw[<- a];exact Lib.cellsOf_full _
 rw[h] at c;go_enter func291,ntmps291;go_wp2_with(go_at_call 336;refine c.mono ?_;rintro e w' ⟨rfl,b⟩;rw[b]);go_ret;exact⟨rfl,rfl⟩
theorem WS {R:Nat}:∀(vs:List ax) (o:Nat) (w:ai) (j:Nat),j<o->(put w R o vs).cell? (aJ R j)=w.cell? (aJ R j)
 |[],_,_,_,_=>rfl
 |v::vs,o,w,j,h=>(WS vs (o+1) _ j aa).trans (World.cell?_setCell_other _ _ _ _ (by intro e;have:=congrArg Addr.off e;simp only at this;omega))
theorem MP {R:Nat}:∀(vs:List ax) (o:Nat) (w:ai),(∀i,i<vs.length->(w.cell? (aJ R (o+i))).isSome=true)->∀j u,vs[j]? =some u->(put w R o vs).cell? (aJ R (o+j))=some u
 |[],_,_,_,j,u,h=>by simp at h
 |v::vs,o,w,a,0,u,h=>by
  simp at h;subst h;exact(WS vs (o+1) _ o aa).trans (iJ _ _ _ (a 0 aI))
 |v::vs,o,w,a,j+1,u,h=>by
  have:=MP vs (o+1) (w.setCell ⟨R,o,none⟩ v) (λi b=>by
   rw[World.cell?_setCell_other _ _ _ _ (by intro e;have:=congrArg Addr.off e;simp only at this;omega)];have:=a (i+1) bq;rwa[show o+(i+1)=o+1+i by omega] at this) j u (by simpa using h)
  rw[show o+(j+1)=o+1+j by omega];exact this
theorem wM {B:Nat}{w u:ai}(h:Below B w.drew u):Below B w u:=⟨h.os,h.tape,h.output,h.size,h.block⟩
theorem WU {cs:List ax}{w:ai}{t:TypeId}:∀j u,cs[j]? =some u->(w.alloc (ak cs.toArray t)).cell? ⟨w.heap.size,j,none⟩=some u:=λj u h=>dN rfl (by simpa using h)
theorem Q7 {w:ai}{R:Nat}{cs:Array ax}{t:TypeId}(h:gM w R cs t):∀i,i<cs.size->(w.cell? (aJ R (0+i))).isSome=true:=λi a=>by
 rw[h.cell (0+i) cs[i] (by simp[a])];rfl
theorem MR {w u:ai}{Q:Nat}{a b:ax}(c:aD w u)(h:w.cell? (aJ Q 0)=some a/\w.cell? (aJ Q 1)=some b):u.cell? (aJ Q 0)=some a/\u.cell? (aJ Q 1)=some b:=⟨(c.cell (p:=⟨Q,0,none⟩) (aX h.1)).trans h.1,(c.cell (p:=⟨Q,1,none⟩) (aX h.2)).trans h.2⟩
theorem xL {w u:ai}{cs:Array ax}{t:TypeId}(a:Below (w.alloc (ak cs t)).drew.heap.size (w.alloc (ak cs t)).drew u):gM u w.heap.size cs t:=gM.below (w:=(w.alloc (ak cs t)).drew) ⟨(gM.new w cs t).h⟩ a az
theorem a1P:(prog.info? 165).map (λi=>(i.zero,i.size,i.bytes))=some (some (.agg zA),12,96):=aA
theorem a9N {m:Mv}:∀u∈[Value.int .i64 m.a.n,ag m.a.d,ag m.b.n,ag m.b.d,ag m.c.n,ag m.c.d,ag m.d.n,ag m.d.d,ag m.e.n,ag m.e.d,ag m.f.n,ag m.f.d],u.oneCell'=true:=λu a=>by
 simp at a;rcases a with rfl|rfl|rfl|rfl|rfl|rfl|rfl|rfl|rfl|rfl|rfl|rfl<;>rfl
end
section
open Go.RowKit Go.Shelf
attribute [local go_sem] Oper.semAt_some
def mq (n j:Nat):List Nat:=(List.range (n-1-j)).map (λk=>n-1-k)
theorem uM {n j:Nat}(h:j<n):mq n j++[j]=(List.range (n-j)).map (λk=>n-1-k):=by
 unfold mq;rw[show n-j=n-1-j+1 by omega,List.range_succ,iK];simp;omega
theorem Q8 (n j:Nat):(mq n j).length=n-1-j:=by simp[mq]
def dH (n:Nat):List Nat:=(List.range n).map (λk=>n-1-k)
theorem MS {n j:Nat}(h:j+1<n):mq n (j+1)++[j+1]=mq n j:=by
 rw[uM h,mq,show n-(j+1)=n-1-j by omega]
theorem MU {n:Nat}(h:0<n):mq n 0++[0]=dH n:=by rw[uM h,dH];rfl
theorem Gp {n j:Nat}(h:j<n):mq n j++[j]<+:dH n:=by
 rw[uM h,dH];refine List.IsPrefix.map _ ?_;refine⟨(List.range j).map (λk=>(n-j)+k),?_⟩;rw[show List.range n=List.range ((n-j)+j) by congr 1;omega,List.range_add]
abbrev a9O (m:Mv)(j:Nat):Array ax:=#[ag j,.agg (mA m)]
theorem Aq (v:ax)(a:Option Addr)(n c:Nat)(b:v=aj a n c)(W:ai):aL 263 #[v] W λe w'=>e=ay (.func (.func 325) #[] #[aK W.heap.size])/\w'=W.alloc (ak #[v] 341):=by
 subst b;go_enter func263,ntmps263;go_wp2;go_ret;exact⟨rfl,rfl⟩
end
section
open Go.RowKit Go.Shelf
attribute [local go_sem] Oper.semAt_some
structure jm (E A n₀:Nat)(W W':ai):Prop where
 block:∀k,k<n₀->k≠E->k≠A->W'.heap[k]? =W.heap[k]?
theorem jm.refl (E A a:Nat)(W:ai):jm E A a W W:=⟨λ_ _ _ _=>rfl⟩
theorem jm.trans {E A a:Nat}{X Y Z:ai}(h:jm E A a X Y)(k:jm E A a Y Z):jm E A a X Z:=⟨λi b c d=>(k.block i b c d).trans (h.block i b c d)⟩
theorem jm.of_below {E A a:Nat}{X Y:ai}(h:aD X Y)(b:a<=X.heap.size):jm E A a X Y:=⟨λi c _ _=>h.block i aa⟩
theorem jm.ajo {E A a:Nat}{X Y:ai}(h:jm E A a X Y)(o:Nat)(v:ax):jm E A a X (Y.setCell ⟨E,o,none⟩ v):=⟨λi c b d=>(dw _ _ _ i b).trans (h.block i c b d)⟩
theorem jm.afj {E A a:Nat}{X:ai}:∀(vs:List ax) (o:Nat) {Y:ai},jm E A a X Y->jm E A a X (put Y A o vs)
 |[],_,_,h=>h
 |_::vs,o,_,h=>jm.afj vs (o+1) ⟨λi c d b=>(dw _ _ _ i b).trans (h.block i c d b)⟩
theorem jm.put {E A a:Nat}(W:ai)(l:Nat)(b:Obj)(c:a<=l):jm E A a W (W.putObj l b):=⟨λi d _ _=>nZ aa⟩
theorem qD {α:Type}{o:Option α}{v:α}(h:o=some v):o.isSome=true:=by rw[h];rfl
theorem qE:∀(vs:List ax) (o R:Nat) (W:ai),KeepsOthers W (put W R o vs)
 |[],_,_,W=>KeepsOthers.refl W
 |_::vs,o,R,W=>(gT W _ _).trans (qE vs (o+1) R _)
def fe (W:ai)(R:Nat)(vs:List ax):Prop:=vs.length=12/\(∀i u,vs[i]? =some u->W.cell? (aJ R i)=some u)/\(∀i,i<12->W.frozen? ⟨R,i,none⟩=false)
theorem fe.twelve {w:ai}{R:Nat}{a0 a1 a2 a3 a b c d e f g i:ax}(h:fe w R [a0,a1,a2,a3,a,b,c,d,e,f,g,i]):w.cell? (aJ R 0)=some a0/\w.cell? (aJ R 1)=some a1/\w.cell? (aJ R 2)=some a2/\w.cell? (aJ R 3)=some a3/\w.cell? (aJ R 4)=some a/\w.cell? (aJ R 5)=some b/\w.cell? (aJ R 6)=some c/\w.cell? (aJ R 7)=some d/\w.cell? (aJ R 8)=some e/\w.cell? (aJ R 9)=some f/\w.cell? (aJ R 10)=some g/\w.cell? (aJ R 11)=some i:=⟨h.2.1 0 _ rfl,h.2.1 1 _ rfl,h.2.1 2 _ rfl,h.2.1 3 _ rfl,h.2.1 4 _ rfl,h.2.1 5 _ rfl,h.2.1 6 _ rfl,h.2.1 7 _ rfl,h.2.1 8 _ rfl,h.2.1 9 _ rfl,h.2.1 10 _ rfl,h.2.1 11 _ rfl⟩
theorem fe.six {w:ai}{R:Nat}{a0 a1 a2 a3 a b c d e f g i:ax}(h:fe w R [a0,a1,a2,a3,a,b,c,d,e,f,g,i]):w.cell? (aJ R 0)=some a0/\w.frozen? ⟨R,0,none⟩=false/\w.cell? (aJ R 1)=some a1/\w.frozen? ⟨R,1,none⟩=false/\w.cell? (aJ R 2)=some a2/\w.frozen? ⟨R,2,none⟩=false/\w.cell? (aJ R 3)=some a3/\w.frozen? ⟨R,3,none⟩=false/\w.cell? (aJ R 4)=some a/\w.frozen? ⟨R,4,none⟩=false/\w.cell? (aJ R 5)=some b/\w.frozen? ⟨R,5,none⟩=false/\w.cell? (aJ R 6)=some c/\w.frozen? ⟨R,6,none⟩=false/\w.cell? (aJ R 7)=some d/\w.frozen? ⟨R,7,none⟩=false/\w.cell? (aJ R 8)=some e/\w.frozen? ⟨R,8,none⟩=false/\w.cell? (aJ R 9)=some f/\w.frozen? ⟨R,9,none⟩=false/\w.cell? (aJ R 10)=some g/\w.frozen? ⟨R,10,none⟩=false/\w.cell? (aJ R 11)=some i/\w.frozen? ⟨R,11,none⟩=false:=⟨h.2.1 0 _ rfl,h.2.2 0 aa,h.2.1 1 _ rfl,h.2.2 1 aa,h.2.1 2 _ rfl,h.2.2 2 aa,h.2.1 3 _ rfl,h.2.2 3 aa,h.2.1 4 _ rfl,h.2.2 4 aa,h.2.1 5 _ rfl,h.2.2 5 aa,h.2.1 6 _ rfl,h.2.2 6 aa,h.2.1 7 _ rfl,h.2.2 7 aa,h.2.1 8 _ rfl,h.2.2 8 aa,h.2.1 9 _ rfl,h.2.2 9 aa,h.2.1 10 _ rfl,h.2.2 10 aa,h.2.1 11 _ rfl,h.2.2 11 aa⟩
theorem fe.zq {W:ai}{R:Nat}{vs:List ax}{t:TypeId}(h:gM W R vs.toArray t)(a:vs.length=12):fe W R vs:=
 ⟨a,λi u b=>h.cell i u (by simpa using b),λi c=>h.fG i vs[i] (by simp[a▸c])⟩
theorem ou {p:Addr}:∀(vs:List ax) (o R:Nat) (W:ai),(put W R o vs).frozen? p=W.frozen? p
 |[],_,_,_=>rfl
 |_::vs,o,R,_=>(ou vs (o+1) R _).trans (jT _ _ _ _)
theorem fe.put {W:ai}{R:Nat}{vs us:List ax}(h:fe W R vs)(b:us.length=12):fe (put W R 0 us) R us:=by
 refine⟨b,λi u c=>?_,λi a=>(ou us 0 R W).trans (h.2.2 i a)⟩;have:=MP (R:=R) us 0 W (λi a=>by rw[gq,h.2.1 i (vs[i]'(by rw[h.1];omega)) aI];rfl) i u c;rwa[gq] at this
theorem fe.oz {W:ai}{R E o:Nat}{vs:List ax}{v:ax}(h:fe W R vs)(hE:R≠E):fe (W.setCell ⟨E,o,none⟩ v) R vs:=
 ⟨h.1,λi u a=>(dh _ _ _ _ (λe=>hE e.symm)).trans (h.2.1 i u a),λi b=>(jT _ _ _ _).trans (h.2.2 i b)⟩
theorem fe.L9 {W:ai}{R R':Nat}{vs us:List ax}(h:fe W R vs)(hE:R≠R'):fe (Go.Proofs.YtbkjmamcnflncaaGreatDoor.put W R' 0 us) R vs:=
 ⟨h.1,λi u a=>(iq (p:=⟨R,i,none⟩) hE us 0 W).trans (h.2.1 i u a),λi b=>(ou us 0 R' W).trans (h.2.2 i b)⟩
theorem fe.kept {W b:ai}{R:Nat}{vs:List ax}{a:Option Nat}(h:fe W R vs)(c:W.grownBy b a)(d:∀r,a=some r->∃o:Obj,W.heap[r]? =some o/\o.isCells=false):fe b R vs:=
 ⟨h.1,λi u e=>cell_kept (h.2.1 i u e) c d,λi f=>by
  have:=h.2.1 i (vs[i]'(by rw[h.1];omega)) aI;exact(frozen_kept this c d).trans (h.2.2 i f)⟩
theorem fe.below {W a:ai}{R:Nat}{vs:List ax}(h:fe W R vs)(b:aD W a):fe a R vs:=
 ⟨h.1,λi u c=>(b.cell (aX (h.2.1 i u c))).trans (h.2.1 i u c),λi d=>by
  have:=h.2.1 i (vs[i]'(by rw[h.1];omega)) aI;exact(b.frozen (p:=⟨R,i,none⟩) (aX this)).trans (h.2.2 i d)⟩
end
section
open Go.RowKit Go.Shelf
set_option maxRecDepth 100000
attribute [local go_sem] Oper.semAt_some
theorem a1Q (F:Fence)(n:Nat)(Q:F.fn 325)(s:F.round=none)(Z:1<=n)(l Bl g a t:Nat)(L:Nat->Mv)(m:0<a)(w:a<=1000)(Kp:ai->ai->Prop)(y:∀A,Kp A A)(z:∀A B C,Kp A B->Kp B C->Kp A C)(D:∀A B,Kp A B->B.cell? (aJ Bl 0)=A.cell? (aJ Bl 0))(E:∀A B,Kp A B->∀o,B.cell? (aJ g o)=A.cell? (aJ g o))(J M:List Nat->ai->Prop)
    (R:∀pre x W,J pre W->pre.length<a->YieldAt F (n-1) prog l #[ag (x:Nat),.agg (mA (L x))] W λe k=>
      (e=ay (.bool true)/\J (pre++[x]) k/\Kp W k)\/(e=ay (.bool false)/\M (pre++[x]) k))
    (W:ai) (H:W.cell? (aJ Bl 0)=some (aj (some ⟨g,0,none⟩) a t))
    (hc:∀j,j<a->∀i u,(mL (L j))[i]? =some u->W.cell? (aJ g (j*12+i))=some u) (S:J [] W):
    CallsIn F n prog 325 #[.func (.yield l) #[] #[],aK Bl] W λe k=>(∃v,e=ay v)/\
      ((∃N,N=dH a/\J N k)\/(∃pre,pre<+:dH a/\M pre k)):=by
  refine callsIn_of_wp func325 rfl Q ?_ s;simp only[ntmps325,jw,eZ,iT,Nat.reduceAdd,Nat.reduceSub,jV,jU,jX,jW,gK,gH];have T:IntKind.i64.wrap ((a:Int)-1)=((a-1:Nat):Int):=by rw[i64_in aa aa];omega
  gi_wp2
  gi_loopw [3] (λi wr=>((∃j:Nat,j<a/\i=ag j/\J (mq a j) wr)\/(i=ag (-1)/\J (dH a) wr))/\Kp W wr)
    (λi _=>(intOf i+1).toNat)
  case atStart=>
    refine⟨.inl ⟨a-1,aa,?_,?_⟩,y _⟩
    . congr 1
    . rw[show mq a (a-1)=[] by simp[mq]];exact S
  case round=>
    obtain⟨c,d⟩:=hrel;rcases c with⟨j,I,rfl,f⟩|⟨rfl,f⟩
    . have cl:=(D _ _ d).trans H
      have b:=λi u h=>(E _ _ d (j*12+i)).trans (hc j I i u h);obtain⟨U,m1,m2,m3,m4,m5,m6,m7,m8,m9,V,X⟩:=And.intro (b 0 _ rfl) (And.intro (b 1 _ rfl) (And.intro (b 2 _ rfl) (And.intro (b 3 _ rfl) (And.intro (b 4 _ rfl) (And.intro (b 5 _ rfl) (And.intro (b 6 _ rfl) (And.intro (b 7 _ rfl) (And.intro (b 8 _ rfl) (And.intro (b 9 _ rfl) (And.intro (b 10 _ rfl) (b 11 _ rfl)))))))))));clear b;simp only[Nat.add_zero] at U;obtain⟨fn,O,r,P,hy,Y⟩:=R _ j wr f (by rw[Q8];omega)
      gi_wp2
      refine Y.mono ?_;rintro e W3 (⟨rfl,p,K⟩|⟨rfl,q⟩)
      . gi_wp2
        go_roundw
        case rel=>
          refine⟨?_,z _ _ _ d K⟩;cases j with
          |zero=>exact .inr ⟨aI,by rw[<- MU m];exact p⟩
          |succ j=>exact .inl ⟨j,aa,aI,by rw[<- MS I];exact p⟩
        case measure=>simp[intOf]
      . gi_wp2
        refine bg (results_none rfl _ _ _) rfl ?_;exact⟨⟨_,rfl⟩,.inr ⟨_,Gp I,q⟩⟩
    . gi_wp2
      go_end0
      exact⟨⟨_,rfl⟩,.inl ⟨_,rfl,f⟩⟩
end
section
open Go.RowKit Go.Shelf
set_option maxRecDepth 100000
attribute [local go_sem] Oper.semAt_some
theorem Uf {A B:ai}(h:KeepsOthers A B):KeepsOthers A B.drew:=⟨h.size,h.same⟩
theorem fe.drew {W:ai}{R:Nat}{vs:List ax}(h:fe W R vs):fe W.drew R vs:=h
theorem La {W:ai}{p:Addr}{v:ax}(h:W.cell? p=some v):W.drew.cell? p=some v:=h
theorem a1R (aB:Addr)(s:aO)(M:Nat->Mv)(n:Nat)(a:List Nat->Mv)(f:List Nat->Prop)(c2:f [])(f6:∀p q,f (p++q)->f p)(W:ai)(hn:0<n)(f7:n<=1000)(ha:a []=.one)
    (HL:∀V,aD W V->aL 262 #[au s] V λe w'=>(∃g m,e=ay (aH #[aj (some ⟨g,0,none⟩) n m,aY])/\g<w'.heap.size/\∀j,j<n->∀i u,(mL (M j))[i]? =some u->w'.cell? (aJ g (j*12+i))=some u)/\aD V w')
    (HT:∀pre x,f pre->f (pre++[x])->∀V,aD W V->aL 195 #[mv (a pre),mv (M x)] V λe w'=>e=ay (aH #[mv (a (pre++[x])),aY])/\aD V w')
    (HN:∀pre x,f pre->¬f (pre++[x])->∀V,aD W V->aL 195 #[mv (a pre),mv (M x)] V λe w'=>e=ay (aH #[mv .zero,aU 453 (.pointer (some aB))])/\aD V w'):
    CallsIn Fence.wide 9 prog 194 #[au s] W λe w'=>(f (dH n)/\e=ay (aH #[mv (a (dH n)),aY])\/¬f (dH n)/\e=ay (aH #[mv .zero,aU 453 (.pointer (some aB))]))/\aD W w':=by
  have HO:=uK;have HB:=Aq;have L0:=((aW W.heap.size W).alloc az (ak zA 165)).alloc aI (ak #[aY] 25);have R0:gM ((W.alloc (ak zA 165)).alloc (ak #[aY] 25)) W.heap.size zA 165:=(gM.new W _ _).alloc _;have Q0:=gM.new (W.alloc (ak zA 165)) #[aY] 25;rw[dV] at Q0;refine callsIn_of_wp_marks func194 rfl trivial ?_ rfl;simp only[ntmps194,jw,eZ,iT,Nat.reduceAdd,Nat.reduceSub,jV,jU,jX,jW,gK,gH]
  gi_wp2_with (first|(refine⟨trivial,?_⟩;gi_at_call 263;refine(dM.2 (HB _ _ _ _ rfl _)).mono ?_;rintro e w' ⟨rfl,rfl⟩)|(refine⟨trivial,?_⟩;gi_at_call 78;refine(dM.2 (HO _)).mono ?_;rintro e d ⟨rfl,H⟩;dsimp only[Mv.one,Fr.whole])|(refine⟨trivial,?_⟩;gi_at_call 262;refine(dM.2 (HL _ L0)).mono ?_;rintro e k ⟨⟨g,m,rfl,z,E⟩,a5⟩))
  have TB:=a5.size;simp only[dV] at TB;have f8:=H.size;simp only[dV] at f8;have e1:(k.alloc (ak #[aY] 25)).heap.size=k.heap.size+1:=aI;have E2:=(gM.new k #[aY] 25).below H az;have R2:=((R0.below a5 az).alloc (ak #[aY] 25)).below H az;have Q2:=((Q0.below a5 az).alloc (ak #[aY] 25)).below H az;have L2:=((L0.trans (a5.mono bq)).alloc aa (ak #[aY] 25)).trans (H.mono bq);have c3:∀j,j<n->∀i u,(mL (M j))[i]? =some u->d.cell? (aJ g (j*12+i))=some u:=λj hj i u hu=>(H.cell (p:=⟨g,j*12+i,none⟩) bq).trans (aN _ (E j hj i u hu));obtain⟨U,y⟩:∃U,(d.alloc (ak oA 165)).alloc (ak #[aj (some ⟨g,0,none⟩) n m] 341)=U:=⟨_,rfl⟩;have k8:U.heap.size=d.heap.size+2:=by rw[<- y];simp
  have A3:gM U d.heap.size oA 165:=by rw[<- y];exact(gM.new d _ _).alloc _
  have C3:U.cell? ⟨d.heap.size+1,0,none⟩=some (aj (some ⟨g,0,none⟩) n m):=by rw[<- y];exact dN aI rfl
  have E3:gM U k.heap.size #[aY] 25:=by rw[<- y];exact(E2.alloc _).alloc _
  have R3:gM U W.heap.size zA 165:=by rw[<- y];exact(R2.alloc _).alloc _
  have Q3:gM U (W.heap.size+1) #[aY] 25:=by rw[<- y];exact(Q2.alloc _).alloc _
  have L3:aD W U:=by rw[<- y];exact(L2.alloc aa _).alloc bq _
  have f9:∀j,j<n->∀i u,(mL (M j))[i]? =some u->U.cell? (aJ g (j*12+i))=some u:=λj hj i u hu=>by rw[<- y];exact aN _ (aN _ (c3 j hj i u hu))
  rw[y];clear y L2 c3 E R0 Q0 E2 R2 Q2;refine wpIn_rangeFunc_ownH rfl aa (gf:=325) (lb:=#[.pointer (some ⟨d.heap.size+1,0,none⟩)]) rfl trivial (enters_of func325 aA rfl)
    (encs:=λx:Nat=>a9O (M x) x) (Kp:=jm k.heap.size d.heap.size U.heap.size) (S:=λys=>ys=dH n) (Sp:=λpre=>pre<+:dH n) (N:=n) (w0:=U)
    (λl J Jx X hX _ _ hY h0=>a1Q Fence.wide _ trivial rfl aa l (d.heap.size+1) g n m M hn f7 _ (jm.refl _ _ _) (λ_ _ _=>jm.trans)
      (λA B h=>qL (h.block (d.heap.size+1) aa aa aa)) (λA B h o=>qL (h.block g aa aa aa)) J Jx hY X ((hX.cell (p:=⟨d.heap.size+1,0,none⟩) fZ).trans C3) (λj hj i u hu=>(hX.cell (p:=⟨g,j*12+i,none⟩) fZ).trans (f9 j hj i u hu)) h0)
    jm.trans (λX l o o' hl _ _ _=>jm.put X l o' hl) (aW _ _) (λ_=>rfl)
    (λpre X=>(f pre/\fe X d.heap.size (mL (a pre))/\(X.cell? ⟨k.heap.size,0,none⟩=some aY/\X.frozen? ⟨k.heap.size,0,none⟩=false)/\fe X W.heap.size zL/\(X.cell? ⟨W.heap.size+1,0,none⟩=some aY/\X.frozen? ⟨W.heap.size+1,0,none⟩=false)/\U.heap.size<=X.heap.size)/\aD W X)
    (λc pre X=>(c=.ret/\¬f pre/\fe X W.heap.size zL/\X.cell? ⟨W.heap.size+1,0,none⟩=some (aU 453 (.pointer (some aB))))/\aD W X)
    (OwnFrom.and (Own.from (λpre A B c5 t z C=>⟨t.1,t.2.1.kept z C,⟨cell_kept t.2.2.1.1 z C,(frozen_kept t.2.2.1.1 z C).trans t.2.2.1.2⟩,t.2.2.2.1.kept z C,⟨cell_kept t.2.2.2.2.1.1 z C,(frozen_kept t.2.2.2.2.1.1 z C).trans t.2.2.2.2.1.2⟩,bO t.2.2.2.2.2 z.size⟩) _) (ownFrom_below az aa))
    (λc=>OwnFrom.and (Own.from (λs A B c5 t z C=>⟨t.1,t.2.1,t.2.2.1.kept z C,cell_kept t.2.2.2 z C⟩) _) (ownFrom_below az aa))
    ⟨⟨c2,by rw[ha];exact fe.zq (vs:=oL) A3 rfl,⟨E3.cell 0 _ rfl,E3.fG 0 _ rfl⟩,fe.zq (vs:=zL) R3 rfl,⟨Q3.cell 0 _ rfl,Q3.fG 0 _ rfl⟩,bJ _⟩,L3⟩
    (λx a' X=>∃Bx,U.heap.size<=Bx/\fe X Bx (mL (M x))/\a'={tmps:=#[au s,undef,aK W.heap.size,.pointer (some ⟨W.heap.size+1,0,none⟩),aj (some ⟨g,0,none⟩) n m,aK k.heap.size,aK d.heap.size,undef,aK Bx,aH #[aj (some ⟨g,0,none⟩) n m,aY],au s,aH #[aj (some ⟨g,0,none⟩) n m,aY],aj (some ⟨g,0,none⟩) n m,aY,aY,.bool false,undef,undef,.agg oA,aj (some ⟨g,0,none⟩) n m,.func (.func 325) #[] #[.pointer (some ⟨d.heap.size+1,0,none⟩)],ag (x:Nat),.agg (mA (M x)),undef,undef,undef,undef,undef,undef,undef,undef,undef,undef,undef],defers:=[]})
    (λx a' s A B c5 t z C=>by obtain⟨Bx,O,F,P⟩:=t;exact⟨Bx,O,F.kept z (λr e=>(C r e).2),P⟩)
    ?assign ?body ?done ?stop
  case assign=>
    rintro l pre x X K ⟨⟨I,O,⟨F,Q⟩,P,⟨T,Z⟩,y⟩,L⟩ hK
    gi_wp2
    have t:=L.size;have a6:=(aW X.heap.size X).alloc az (ak (mA (M x)) 165);exact hK _ _ ((KeepsOthers.alloc _ _).from _) (jm.of_below a6 y) ⟨⟨I,O.below a6,⟨aN _ F,gV _ F Q⟩,P.below a6,⟨aN _ T,gV _ T Z⟩,bO y a6.size⟩,L.alloc t _⟩ ⟨X.heap.size,y,fe.zq (vs:=(mL (M x))) (gM.new X _ _) rfl,rfl⟩
  case body=>
    rintro l pre x a' X hl C ⟨⟨I,O,⟨F,Q⟩,P,⟨T,Z⟩,y⟩,L⟩ ⟨Bx,k9,hM,rfl⟩ k7;obtain⟨g0,g1,g2,g3,g4,g5,g6,g7,g8,g9,YB,YC⟩:=O.twelve;obtain⟨l0,l1,l2,l3,l4,l5,l7,m0,m1,m2,m3,m4⟩:=hM.twelve;have c6:¬k.heap.size=d.heap.size:=aa;have h5:¬d.heap.size=k.heap.size:=aa;by_cases a7:f (pre++[x])
    . have HK:=HT pre x I a7 X L
      gi_wp2_with ((refine⟨trivial,?_⟩;gi_at_call 195;refine(CallsIn.inRound l (dM.2 HK)).mono ?_;rintro e w' ⟨rfl,b⟩;have a4:=O.below b;have c7:=b.size;obtain⟨c8,c9,d0,d1,d2,d3,d4,d6,d7,d8,d9,e0,e2,e3,e4,e5,e6,e7,e8,e9,f0,f1,f2,f3⟩:=a4.six;have ec:=(b.cell (p:=⟨k.heap.size,0,none⟩) (aX F)).trans F;have ef:=(b.frozen (p:=⟨k.heap.size,0,none⟩) (aX F)).trans Q))
      have a8:=P.below b;have c4:=(b.cell (p:=⟨W.heap.size+1,0,none⟩) (aX T)).trans T;have f4:=(b.frozen (p:=⟨W.heap.size+1,0,none⟩) (aX T)).trans Z;refine⟨(((pW b).trans (qE (mL (a (pre++[x]))) 0 d.heap.size w')).trans (gT _ _ _)).from _,((jm.of_below b y).afj (mL (a (pre++[x]))) 0).ajo 0 aY,⟨a7,?_,⟨?_,?_⟩,?_,⟨?_,?_⟩,?_⟩,?_⟩
      . exact(a4.put (us:=(mL (a (pre++[x])))) rfl).oz h5
      . exact iJ _ _ _ (qD ((iq (p:=⟨k.heap.size,0,none⟩) (R:=d.heap.size) c6 (mL (a (pre++[x]))) 0 w').trans ec))
      . exact(jT _ _ _ _).trans ((ou (mL (a (pre++[x]))) 0 d.heap.size w').trans ef)
      . exact(a8.L9 (us:=(mL (a (pre++[x])))) (R':=d.heap.size) aa).oz aa
      . exact(dh _ _ _ _ fZ).trans ((iq (p:=⟨W.heap.size+1,0,none⟩) (R:=d.heap.size) fZ (mL (a (pre++[x]))) 0 w').trans c4)
      . exact(jT _ _ _ _).trans ((ou (mL (a (pre++[x]))) 0 d.heap.size w').trans f4)
      . have:=(dB (B:=0) (A:=w') (R:=d.heap.size) (bA _) (mL (a (pre++[x]))) 0 (aW 0 w')).size
        simp only[nu] at*;omega
      . exact(dB (R:=d.heap.size) aa (mL (a (pre++[x]))) 0 (L.trans (b.mono L.size))).setCell (p:=⟨k.heap.size,0,none⟩) fZ _
    . have HK:=HN pre x I a7 X L
      gi_wp2_with ((refine⟨trivial,?_⟩;gi_at_call 195;refine(CallsIn.inRound l (dM.2 HK)).mono ?_;rintro e w' ⟨rfl,b⟩;dsimp only[Mv.zero,Fr.zero];have a4:=O.below b;have c7:=b.size;obtain⟨c8,c9,d0,d1,d2,d3,d4,d6,d7,d8,d9,e0,e2,e3,e4,e5,e6,e7,e8,e9,f0,f1,f2,f3⟩:=a4.six;have ec:=(b.cell (p:=⟨k.heap.size,0,none⟩) (aX F)).trans F;have ef:=(b.frozen (p:=⟨k.heap.size,0,none⟩) (aX F)).trans Q))
      have a8:=P.below b;have c4:=(b.cell (p:=⟨W.heap.size+1,0,none⟩) (aX T)).trans T;have f4:=(b.frozen (p:=⟨W.heap.size+1,0,none⟩) (aX T)).trans Z;obtain⟨Y,hY⟩:∃Y,(put w' d.heap.size 0 zL).setCell ⟨k.heap.size,0,none⟩ (aU 453 (.pointer (some aB)))=Y:=⟨_,rfl⟩;have h6:KeepsOthers X Y:=by rw[<- hY];exact((pW b).trans (qE zL 0 d.heap.size w')).trans (gT _ _ _)
      have y1:Y.cell? ⟨k.heap.size,0,none⟩=some (aU 453 (.pointer (some aB))):=by rw[<- hY];exact iJ _ _ _ (qD ((iq (p:=⟨k.heap.size,0,none⟩) (R:=d.heap.size) c6 zL 0 w').trans ec))
      have y3:fe Y W.heap.size zL:=by rw[<- hY];exact(a8.L9 (us:=zL) (R':=d.heap.size) aa).oz aa
      have y4:Y.cell? ⟨W.heap.size+1,0,none⟩=some aY:=by rw[<- hY];exact(dh _ _ _ _ fZ).trans ((iq (p:=⟨W.heap.size+1,0,none⟩) (R:=d.heap.size) fZ zL 0 w').trans c4)
      have y5:Y.frozen? ⟨W.heap.size+1,0,none⟩=false:=by rw[<- hY];exact(jT _ _ _ _).trans ((ou zL 0 d.heap.size w').trans f4)
      have yB:aD W Y:=by rw[<- hY];exact(dB (R:=d.heap.size) aa zL 0 (L.trans (b.mono L.size))).setCell (p:=⟨k.heap.size,0,none⟩) fZ _
      change Code.wpIn _ _ _ _ _ _ ((put w' d.heap.size 0 zL).setCell ⟨k.heap.size,0,none⟩ (aU 453 (.pointer (some aB))));rw[hY];clear hY;obtain⟨h7,h8,h9,i0,Cj,i1,i2,i3,i4,i5,i6,i7,i8,i9,j0,j1,j2,j3,j4,j7,j8,j9,k0,k1⟩:=y3.six;have k2:¬W.heap.size=k.heap.size:=aa;have k3:¬k.heap.size=W.heap.size:=aa;have b0:¬W.heap.size+1=W.heap.size:=aa;have b1:¬W.heap.size=W.heap.size+1:=aa;clear ec ef c8 c9 d0 d1 d2 d3 d4 d6 d7 d8 d9 e0 e2 e3 e4 e5 e6 e7 e8 e9 f0 f1 f2 f3 a4 a8 c4 f4 b c7
      gi_region
      all_goals
        gi_wp2
        refine⟨KeepsOthers.from (Uf ((h6.trans (qE zL 0 W.heap.size Y)).trans (gT _ ⟨W.heap.size+1,0,none⟩ (aU 453 (.pointer (some aB)))))) _,⟨rfl,a7,?_,?_⟩,?_⟩
        . exact fe.drew ((y3.put (us:=zL) rfl).oz b1)
        . exact La (iJ _ _ _ (qD ((iq (p:=⟨W.heap.size+1,0,none⟩) (R:=W.heap.size) b0 zL 0 Y).trans y4)))
        . exact below_drewN ((dB (R:=W.heap.size) az zL 0 yB).setCell (p:=⟨W.heap.size+1,0,none⟩) fZ _) 1
  case done=>
    rintro D ys X hD rfl ⟨⟨I,O,⟨F,Q⟩,P,⟨T,Z⟩,y⟩,L⟩ hK;obtain⟨g0,g1,g2,g3,g4,g5,g6,g7,g8,g9,YB,YC⟩:=O.twelve;obtain⟨h7,h8,h9,i0,Cj,i1,i2,i3,i4,i5,i6,i7,i8,i9,j0,j1,j2,j3,j4,j7,j8,j9,k0,k1⟩:=P.six;have k2:¬W.heap.size=d.heap.size:=aa;have k3:¬d.heap.size=W.heap.size:=aa;have b0:¬W.heap.size+1=W.heap.size:=aa;have b1:¬W.heap.size=W.heap.size+1:=aa
    gi_wp2
    have a9:=((qE (mL (a (dH n))) 0 W.heap.size X).trans (gT _ ⟨W.heap.size+1,0,none⟩ aY)).same D _ hK rfl;refine⟨aI,.inl ⟨_,_,rfl,run_takeDeferred a9,?_⟩⟩;have hO:fe ((((((((((((((X.setCell ⟨W.heap.size,0,none⟩ (ag (a (dH n)).a.n)).setCell ⟨W.heap.size,1,none⟩ (ag (a (dH n)).a.d)).setCell ⟨W.heap.size,2,none⟩ (ag (a (dH n)).b.n)).setCell ⟨W.heap.size,3,none⟩ (ag (a (dH n)).b.d)).setCell ⟨W.heap.size,4,none⟩ (ag (a (dH n)).c.n)).setCell ⟨W.heap.size,5,none⟩ (ag (a (dH n)).c.d)).setCell ⟨W.heap.size,6,none⟩ (ag (a (dH n)).d.n)).setCell ⟨W.heap.size,7,none⟩ (ag (a (dH n)).d.d)).setCell ⟨W.heap.size,8,none⟩ (ag (a (dH n)).e.n)).setCell ⟨W.heap.size,9,none⟩ (ag (a (dH n)).e.d)).setCell ⟨W.heap.size,10,none⟩ (ag (a (dH n)).f.n)).setCell ⟨W.heap.size,11,none⟩ (ag (a (dH n)).f.d)).setCell ⟨W.heap.size+1,0,none⟩ aY).putObj D (.deferred none)) W.heap.size (mL (a (dH n))):=((P.put (us:=(mL (a (dH n)))) rfl).oz (o:=0) (v:=aY) b1).kept (grownBy_putObj' _ D (.deferred none)) (λr e=>by cases e;exact⟨_,a9,rfl⟩);have hQ:((((((((((((((X.setCell ⟨W.heap.size,0,none⟩ (ag (a (dH n)).a.n)).setCell ⟨W.heap.size,1,none⟩ (ag (a (dH n)).a.d)).setCell ⟨W.heap.size,2,none⟩ (ag (a (dH n)).b.n)).setCell ⟨W.heap.size,3,none⟩ (ag (a (dH n)).b.d)).setCell ⟨W.heap.size,4,none⟩ (ag (a (dH n)).c.n)).setCell ⟨W.heap.size,5,none⟩ (ag (a (dH n)).c.d)).setCell ⟨W.heap.size,6,none⟩ (ag (a (dH n)).d.n)).setCell ⟨W.heap.size,7,none⟩ (ag (a (dH n)).d.d)).setCell ⟨W.heap.size,8,none⟩ (ag (a (dH n)).e.n)).setCell ⟨W.heap.size,9,none⟩ (ag (a (dH n)).e.d)).setCell ⟨W.heap.size,10,none⟩ (ag (a (dH n)).f.n)).setCell ⟨W.heap.size,11,none⟩ (ag (a (dH n)).f.d)).setCell ⟨W.heap.size+1,0,none⟩ aY).putObj D (.deferred none)).cell? ⟨W.heap.size+1,0,none⟩=some aY:=cell_kept (iJ _ _ aY (qD ((iq (p:=⟨W.heap.size+1,0,none⟩) (R:=W.heap.size) b0 (mL (a (dH n))) 0 X).trans T))) (grownBy_putObj' _ D (.deferred none)) (λr e=>by cases e;exact⟨_,a9,rfl⟩)
    obtain⟨b2,b3,b4,b5,b6,b7,b8,b9,c0,c1,Ug,Uh⟩:=hO.twelve;clear hO;have hL:=(dB (R:=W.heap.size) az (mL (a (dH n))) 0 L).setCell (p:=⟨W.heap.size+1,0,none⟩) fZ aY;refine⟨aH #[mv (a (dH n)),aY],?_,.inl ⟨I,rfl⟩,hL.trans (belowK_b (w:=W) az _ D _ _ aa a9 rfl rfl)⟩;simp[results,results194,go_sem,hQ,b2,b3,b4,b5,b6,b7,b8,b9,c0,c1,Ug,Uh]
  case stop=>
    rintro D c pre X hD f5 ⟨⟨rfl,O,F,P⟩,L⟩ hK
    gi_wp2
    refine⟨aI,.inl ⟨_,_,rfl,run_takeDeferred hK,?_⟩⟩;have C:∀r,some D=some r->∃o:Obj,X.heap[r]? =some o/\o.isCells=false:=λr e=>by cases e;exact⟨_,hK,rfl⟩
    have z:=grownBy_putObj' X D (.deferred none);have k4:=cell_kept P z C;have k5:=F.kept z C;obtain⟨b2,b3,b4,b5,b6,b7,b8,b9,c0,c1,Ug,Uh⟩:=k5.twelve;obtain⟨r,k6⟩:=f5;refine⟨aH #[mv .zero,aU 453 (.pointer (some aB))],?_,.inr ⟨λe=>O (f6 pre r (by rw[k6];exact e)),rfl⟩,L.trans (belowK_b (w:=W) az X D _ _ aa hK rfl rfl)⟩;simp[results,results194,go_sem,Mv.zero,Fr.zero,k4,b2,b3,b4,b5,b6,b7,b8,b9,c0,c1,Ug,Uh]
end
open Go.RowKit Go.Shelf
set_option maxRecDepth 100000
attribute [local go_sem] Oper.semAt_some
theorem a1S (F:Fence)(n:Nat)(d:F.fn 325)(a:F.round=none)(l Bl:Nat)(J f:List Nat->ai->Prop)
  (W:ai) (g:W.cell? (aJ Bl 0)=some (aj none 0 0)) (h:J [] W):
  CallsIn F n prog 325 #[.func (.yield l) #[] #[],aK Bl] W λe b=>(∃v,e=ay v)/\
   ((∃c,c=[]/\J c b)\/(∃pre,pre<+:[]/\f pre b)):=by
 refine callsIn_of_wp func325 rfl d ?_ a;simp only[ntmps325,jw,eZ,iT,Nat.reduceAdd,Nat.reduceSub,jV,jU,jX,jW,gK,gH]
 gi_wp2
 gi_loopw [3] (λi wr=>i=ag (-1)/\J [] wr) (λ_ _=>0)
 case atStart=>exact⟨rfl,h⟩
 case round=>
  obtain⟨rfl,j⟩:=hrel
  gi_wp2
  go_end0
  exact⟨⟨_,rfl⟩,.inl ⟨_,rfl,j⟩⟩
theorem a1T (s:aO)(W:ai)
  (HL:∀V,aD W V->aL 262 #[au s] V λe w'=>e=ay (aH #[aj none 0 0,aY])/\aD V w'):
  CallsIn Fence.wide 9 prog 194 #[au s] W λe w'=>e=ay (aH #[mv (Mv.one),aY])/\aD W w':=by
 have HO:=uK;have HB:=Aq;have L0:=((aW W.heap.size W).alloc az (ak zA 165)).alloc aI (ak #[aY] 25);have R0:gM ((W.alloc (ak zA 165)).alloc (ak #[aY] 25)) W.heap.size zA 165:=(gM.new W _ _).alloc _;have I:=gM.new (W.alloc (ak zA 165)) #[aY] 25;rw[dV] at I;refine callsIn_of_wp_marks func194 rfl trivial ?_ rfl;simp only[ntmps194,jw,eZ,iT,Nat.reduceAdd,Nat.reduceSub,jV,jU,jX,jW,gK,gH]
 gi_wp2_with (first|(refine⟨trivial,?_⟩;gi_at_call 263;refine(dM.2 (HB _ _ _ _ rfl _)).mono ?_;rintro e w' ⟨rfl,rfl⟩)|(refine⟨trivial,?_⟩;gi_at_call 78;refine(dM.2 (HO _)).mono ?_;rintro e d ⟨rfl,f⟩;dsimp only[Mv.one,Fr.whole])|(refine⟨trivial,?_⟩;gi_at_call 262;refine(dM.2 (HL _ L0)).mono ?_;rintro e n ⟨rfl,g⟩))
 have TB:=g.size;simp only[dV] at TB;have L:=f.size;simp only[dV] at L;have e1:(n.alloc (ak #[aY] 25)).heap.size=n.heap.size+1:=aI;have E2:=(gM.new n #[aY] 25).below f az;have R2:=((R0.below g az).alloc (ak #[aY] 25)).below f az;have Q2:=((I.below g az).alloc (ak #[aY] 25)).below f az;have L2:=((L0.trans (g.mono bq)).alloc aa (ak #[aY] 25)).trans (f.mono bq);obtain⟨U,a⟩:∃U,(d.alloc (ak oA 165)).alloc (ak #[aj none 0 0] 341)=U:=⟨_,rfl⟩;have b2:U.heap.size=d.heap.size+2:=by rw[<- a];simp
 have A3:gM U d.heap.size oA 165:=by rw[<- a];exact(gM.new d _ _).alloc _
 have C3:U.cell? ⟨d.heap.size+1,0,none⟩=some (aj none 0 0):=by rw[<- a];exact dN aI rfl
 have E3:gM U n.heap.size #[aY] 25:=by rw[<- a];exact(E2.alloc _).alloc _
 have R3:gM U W.heap.size zA 165:=by rw[<- a];exact(R2.alloc _).alloc _
 have Q3:gM U (W.heap.size+1) #[aY] 25:=by rw[<- a];exact(Q2.alloc _).alloc _
 have L3:aD W U:=by rw[<- a];exact(L2.alloc aa _).alloc bq _
 rw[a];clear a L2 R0 I E2 R2 Q2;refine wpIn_rangeFunc_ownH rfl aa (gf:=325) (lb:=#[.pointer (some ⟨d.heap.size+1,0,none⟩)]) rfl trivial (enters_of func325 aA rfl)
  (encs:=λx:Nat=>a9O Mv.one x) (Kp:=jm n.heap.size d.heap.size U.heap.size) (S:=λys=>ys=[]) (Sp:=λpre=>pre<+:[]) (N:=0) (w0:=U)
  (λl J Jx X hX _ _ hY h0=>a1S Fence.wide _ trivial rfl l (d.heap.size+1) J Jx X ((hX.cell (p:=⟨d.heap.size+1,0,none⟩) fZ).trans C3) h0)
  jm.trans (λX l o o' hl _ _ _=>jm.put X l o' hl) (aW _ _) (λ_=>rfl)
  (λpre X=>(fe X d.heap.size (mL Mv.one)/\(X.cell? ⟨n.heap.size,0,none⟩=some aY/\X.frozen? ⟨n.heap.size,0,none⟩=false)/\fe X W.heap.size zL/\(X.cell? ⟨W.heap.size+1,0,none⟩=some aY/\X.frozen? ⟨W.heap.size+1,0,none⟩=false)/\U.heap.size<=X.heap.size)/\aD W X)
  (λ_ _ _=>False)
  (OwnFrom.and (Own.from (λpre A B M b i j=>⟨b.1.kept i j,⟨cell_kept b.2.1.1 i j,(frozen_kept b.2.1.1 i j).trans b.2.1.2⟩,b.2.2.1.kept i j,⟨cell_kept b.2.2.2.1.1 i j,(frozen_kept b.2.2.2.1.1 i j).trans b.2.2.2.1.2⟩,bO b.2.2.2.2 i.size⟩) _) (ownFrom_below az aa))
  (λ_ _ _ _ _ h _ _=>h)
  ⟨⟨fe.zq (vs:=oL) A3 rfl,⟨E3.cell 0 _ rfl,E3.fG 0 _ rfl⟩,fe.zq (vs:=zL) R3 rfl,⟨Q3.cell 0 _ rfl,Q3.fG 0 _ rfl⟩,bJ _⟩,L3⟩
  (λx O X=>∃t,U.heap.size<=t/\fe X t (mL Mv.one)/\O={tmps:=#[au s,undef,aK W.heap.size,.pointer (some ⟨W.heap.size+1,0,none⟩),aj none 0 0,aK n.heap.size,aK d.heap.size,undef,aK t,aH #[aj none 0 0,aY],au s,aH #[aj none 0 0,aY],aj none 0 0,aY,aY,.bool false,undef,undef,.agg oA,aj none 0 0,.func (.func 325) #[] #[.pointer (some ⟨d.heap.size+1,0,none⟩)],ag (x:Nat),.agg (mA Mv.one),undef,undef,undef,undef,undef,undef,undef,undef,undef,undef,undef],defers:=[]})
  (λx O s A B M b i j=>by obtain⟨t,u,y,q⟩:=b;exact⟨t,u,y.kept i (λr e=>(j r e).2),q⟩)
  ?assign ?body ?done ?stop
 case assign=>
  rintro l pre x X K ⟨⟨u,⟨y,z⟩,q,⟨F,C⟩,a⟩,H⟩ P
  gi_wp2
  have b:=H.size;have k:=(aW X.heap.size X).alloc az (ak (mA Mv.one) 165);exact P _ _ ((KeepsOthers.alloc _ _).from _) (jm.of_below k a) ⟨⟨u.below k,⟨aN _ y,gV _ y z⟩,q.below k,⟨aN _ F,gV _ F C⟩,bO a k.size⟩,H.alloc b _⟩ ⟨X.heap.size,a,fe.zq (vs:=(mL Mv.one)) (gM.new X _ _) rfl,rfl⟩
 case body=>
  rintro l pre x O X hl j _ _ E;exact(Nat.not_lt_zero _ E).elim
 case done=>
  rintro D ys X hD rfl ⟨⟨u,⟨y,z⟩,q,⟨F,C⟩,a⟩,H⟩ P;obtain⟨b3,b4,b5,b6,b7,b8,b9,c0,c1,c2,YB,YC⟩:=u.twelve;obtain⟨c3,c4,c5,c6,Cj,c7,c8,c9,d0,d1,d2,d3,d4,d6,d7,d8,d9,e0,e2,e3,e4,e5,e6,e7⟩:=q.six;have Q:¬W.heap.size+1=W.heap.size:=aa;have T:¬W.heap.size=W.heap.size+1:=aa
  gi_wp2
  have m:=((qE (mL (Mv.one)) 0 W.heap.size X).trans (gT _ ⟨W.heap.size+1,0,none⟩ aY)).same D _ P rfl;refine⟨aI,.inl ⟨_,_,rfl,run_takeDeferred m,?_⟩⟩;have hO:fe ((((((((((((((X.setCell ⟨W.heap.size,0,none⟩ (ag (Mv.one).a.n)).setCell ⟨W.heap.size,1,none⟩ (ag (Mv.one).a.d)).setCell ⟨W.heap.size,2,none⟩ (ag (Mv.one).b.n)).setCell ⟨W.heap.size,3,none⟩ (ag (Mv.one).b.d)).setCell ⟨W.heap.size,4,none⟩ (ag (Mv.one).c.n)).setCell ⟨W.heap.size,5,none⟩ (ag (Mv.one).c.d)).setCell ⟨W.heap.size,6,none⟩ (ag (Mv.one).d.n)).setCell ⟨W.heap.size,7,none⟩ (ag (Mv.one).d.d)).setCell ⟨W.heap.size,8,none⟩ (ag (Mv.one).e.n)).setCell ⟨W.heap.size,9,none⟩ (ag (Mv.one).e.d)).setCell ⟨W.heap.size,10,none⟩ (ag (Mv.one).f.n)).setCell ⟨W.heap.size,11,none⟩ (ag (Mv.one).f.d)).setCell ⟨W.heap.size+1,0,none⟩ aY).putObj D (.deferred none)) W.heap.size (mL (Mv.one)):=((q.put (us:=(mL (Mv.one))) rfl).oz (o:=0) (v:=aY) T).kept (grownBy_putObj' _ D (.deferred none)) (λr e=>by cases e;exact⟨_,m,rfl⟩);have hQ:((((((((((((((X.setCell ⟨W.heap.size,0,none⟩ (ag (Mv.one).a.n)).setCell ⟨W.heap.size,1,none⟩ (ag (Mv.one).a.d)).setCell ⟨W.heap.size,2,none⟩ (ag (Mv.one).b.n)).setCell ⟨W.heap.size,3,none⟩ (ag (Mv.one).b.d)).setCell ⟨W.heap.size,4,none⟩ (ag (Mv.one).c.n)).setCell ⟨W.heap.size,5,none⟩ (ag (Mv.one).c.d)).setCell ⟨W.heap.size,6,none⟩ (ag (Mv.one).d.n)).setCell ⟨W.heap.size,7,none⟩ (ag (Mv.one).d.d)).setCell ⟨W.heap.size,8,none⟩ (ag (Mv.one).e.n)).setCell ⟨W.heap.size,9,none⟩ (ag (Mv.one).e.d)).setCell ⟨W.heap.size,10,none⟩ (ag (Mv.one).f.n)).setCell ⟨W.heap.size,11,none⟩ (ag (Mv.one).f.d)).setCell ⟨W.heap.size+1,0,none⟩ aY).putObj D (.deferred none)).cell? ⟨W.heap.size+1,0,none⟩=some aY:=cell_kept (iJ _ _ aY (qD ((iq (p:=⟨W.heap.size+1,0,none⟩) (R:=W.heap.size) Q (mL (Mv.one)) 0 X).trans F))) (grownBy_putObj' _ D (.deferred none)) (λr e=>by cases e;exact⟨_,m,rfl⟩);obtain⟨Y,Z,a4,a5,a6,a7,a8,a9,b0,b1,Ug,Uh⟩:=hO.twelve
  clear hO;have hL:=(dB (R:=W.heap.size) az (mL (Mv.one)) 0 H).setCell (p:=⟨W.heap.size+1,0,none⟩) fZ aY;refine⟨aH #[mv (Mv.one),aY],?_,rfl,hL.trans (belowK_b (w:=W) az _ D _ _ aa m rfl rfl)⟩;simp[results,results194,go_sem,hQ,Y,Z,a4,a5,a6,a7,a8,a9,b0,b1,Ug,Uh]
 case stop=>
  rintro D c pre X _ _ h _;exact h.elim
theorem Q9 (s:aO)(a:Addr)(W:ai)
  (C:∀V,aD W V->aL 262 #[au s] V λe w'=>e=ay (aH #[aj none 0 0,aU 453 (.pointer (some a))])/\aD V w'):
  CallsIn Fence.wide 9 prog 194 #[au s] W λe w'=>e=ay (aH #[mv .zero,aU 453 (.pointer (some a))])/\aD W w':=by
 have d:=((aW W.heap.size W).alloc az (ak zA 165)).alloc aI (ak #[aY] 25);have x:gM ((W.alloc (ak zA 165)).alloc (ak #[aY] 25)) W.heap.size zA 165:=(gM.new W _ _).alloc _;have f:=gM.new (W.alloc (ak zA 165)) #[aY] 25;rw[dV] at f;refine callsIn_of_wp_marks func194 rfl trivial ?_ rfl;simp only[ntmps194,jw,eZ,iT,Nat.reduceAdd,Nat.reduceSub,jV,jU,jX,jW,gK,gH]
 gi_wp2_with ((refine⟨trivial,?_⟩;gi_at_call 262;refine(dM.2 (C _ d)).mono ?_;rintro e y ⟨rfl,b⟩))
 have D:=b.size;simp only[dV] at D;obtain⟨Y,c⟩:∃Y,y.alloc (ak #[aU 453 (.pointer (some a))] 25)=Y:=⟨_,rfl⟩;have L:Y.cell? ⟨y.heap.size,0,none⟩=some (aU 453 (.pointer (some a))):=by rw[<- c];exact dN rfl rfl
 have z:gM Y W.heap.size zA 165:=by rw[<- c];exact(x.below b az).alloc _
 have A:gM Y (W.heap.size+1) #[aY] 25:=by rw[<- c];exact(f.below b az).alloc _
 have F:aD W Y:=by rw[<- c];exact(d.trans (b.mono bq)).alloc aa _
 rw[c];clear c b x f d;have H:=A.cell 0 _ rfl;have M:=A.fG 0 _ rfl;obtain⟨N,O,P,Q,S,T,U,X,Z,OU,zV,OV,zW,OX,zX,OY,zY,OZ,zZ,P6,mQ,wG,mV,wH⟩:=z.six;have g:¬W.heap.size+1=W.heap.size:=aa;have h:¬W.heap.size=W.heap.size+1:=aa
 gi_region
 all_goals
  gi_wp2
  have i:=fe.drew (((fe.zq (vs:=zL) z rfl).put (us:=zL) rfl).oz (E:=W.heap.size+1) (o:=0) (v:=aU 453 (.pointer (some a))) h);have B:=La (iJ (put Y W.heap.size 0 zL) ⟨W.heap.size+1,0,none⟩ (aU 453 (.pointer (some a))) (qD ((iq (p:=⟨W.heap.size+1,0,none⟩) (R:=W.heap.size) g zL 0 Y).trans H)));simp only[put,gq,Nat.reduceAdd] at i B;obtain⟨j,k,l,m,n,q,r,t,u,w,I,J⟩:=i.twelve;clear i;have K:=below_drewN ((dB (R:=W.heap.size) az zL 0 F).setCell (p:=⟨W.heap.size+1,0,none⟩) fZ (aU 453 (.pointer (some a)))) 1;refine⟨aH #[mv .zero,aU 453 (.pointer (some a))],?_,rfl,K⟩;simp[results,results194,go_sem,Mv.zero,Fr.zero,B,j,k,l,m,n,q,r,t,u,w,I,J]

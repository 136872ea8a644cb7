/- Parts of the proof. -/
import Derived.Shelf.Small.Utf8
import Derived.Shelf.Small.Wraps
import Derived.Shelf.Strings.BuilderK
import Derived.Shelf.Strconv.Itoa3
import Derived.Shelf.Strconv.AtoiAll
import Derived.Shelf.Strings.Shaped
import Derived.Shelf.Strings.LastIndex
import Derived.Shelf.GgClosure.StringsIndexFuncTop
import Derived.Shelf.Strings.Split
import Derived.Shelf.Strings.IndexAnyAll
import Derived.Shelf.Unicode.DecodeSlow
import Derived.Shelf.Slices.Turned
import Derived.Shelf.SlicesE.DeleteFunc
import Derived.Test.YtjfiehbcamfdfaaGreatDoorQz8
namespace Go.Proofs
open Go.Shelf
theorem aN {α:Type}{a:Option α}{b c:α}(h:a=some b)(e:b=c:=by kernel_rfl):a=some c:=h.trans (congrArg some e)
def Tryz.ym:Go.Shelf.Ren:=⟨fun|169=>40|n=>n,fun|70=>96|9=>9|0=>0|72=>99|37=>97|127=>165|3=>3|5=>5|n=>n,fun|n=>n⟩
theorem Tryz.Zu:Go.Proofs.Lays.n169 prog Tryz.ym:={
  mixed:=by kernel_rfl
  f169:=aN func40
  t0:=underlying0
  a0:=Tryz.isAgg0
  z0:=Tryz.sizeOf0
  v0:=Tryz.zeroValue0
  t3:=underlying3
  a3:=Tryz.isAgg3
  z3:=Tryz.sizeOf3
  v3:=Tryz.zeroValue3
  t9:=underlying9
  a9:=Tryz.isAgg9
  z9:=Tryz.sizeOf9
  v9:=Tryz.zeroValue9
  t37:=underlying97
  a37:=Tryz.isAgg97
  z37:=Tryz.sizeOf97
  v37:=Tryz.zeroValue97
  t70:=underlying96
  a70:=Tryz.isAgg96
  z70:=Tryz.sizeOf96
  v70:=Tryz.zeroValue96
  t72:=underlying99
  a72:=Tryz.isAgg99
  z72:=Tryz.sizeOf99
  v72:=Tryz.zeroValue99
  t127:=underlying165
  a127:=Tryz.isAgg165
  z127:=Tryz.sizeOf165
  v127:=Tryz.zeroValue165}
theorem Tryz.uZ:Builder.Extra prog Tryz.ym:={
  sizeBuilder:=by kernel_rfl
  liesBuilder:=by kernel_rfl
  t5:=underlying5
  a5:=Tryz.isAgg5
  z5:=Tryz.sizeOf5
  v5:=Tryz.zeroValue5
  infoByte:=by kernel_rfl
  cellsByte:=by kernel_rfl
  sizeByte:=by kernel_rfl
  neB5:=by decide}
def Tryz.J3:Go.Shelf.Ren:=⟨fun|119=>272|n=>n,fun|21=>21|4=>4|n=>n,fun|n=>n⟩
theorem Tryz.Zv:Go.Proofs.Lays.n119 prog Tryz.J3:={
  mixed:=by kernel_rfl
  f119:=aN func272
  t4:=underlying4
  a4:=Tryz.isAgg4
  z4:=Tryz.sizeOf4
  v4:=Tryz.zeroValue4
  t21:=underlying21
  a21:=Tryz.isAgg21
  z21:=Tryz.sizeOf21
  v21:=Tryz.zeroValue21}
theorem Tryz.utf8_ValidRune (r:Int)(w:World):
    Calls prog 272 #[.int .i32 r] w fun e w'=>e= .returned (.bool (Lib.validRune r))/\ w'=w:=Any.utf8_ValidRune Tryz.Zv r w
def Tryz.J4:Go.Shelf.Ren:=⟨fun|137=>117|217=>160|266=>209|n=>n,fun|9=>9|5=>5|3=>3|n=>n,fun|n=>n⟩
theorem Tryz.Zw:Go.Proofs.Lays.n137 prog Tryz.J4:={
  mixed:=by kernel_rfl
  f137:=aN func117
  f217:=aN func160
  f266:=aN func209
  t3:=underlying3
  a3:=Tryz.isAgg3
  z3:=Tryz.sizeOf3
  v3:=Tryz.zeroValue3
  t5:=underlying5
  a5:=Tryz.isAgg5
  z5:=Tryz.sizeOf5
  v5:=Tryz.zeroValue5
  t9:=underlying9
  a9:=Tryz.isAgg9
  z9:=Tryz.sizeOf9
  v9:=Tryz.zeroValue9}
open Go.RowKit in
theorem Tryz.strings_IndexByte (s:ByteArray)(c:Int)(w:World):
    Calls prog 117 #[.string s,.int .u8 c] w fun e w'=>e= .returned (.int .i64 (Lib.indexByte s.data.toList c.toNat.toUInt8))/\ w'=w:=Any.strings_IndexByte Tryz.Zw s c w
def Tryz.J5:Go.Shelf.Ren:=⟨fun|103=>115|210=>159|206=>163|n=>n,fun|9=>9|4=>4|24=>51|3=>3|n=>n,fun|n=>n⟩
theorem Tryz.Zx:Go.Proofs.Lays.n103 prog Tryz.J5:={
  mixed:=by kernel_rfl
  f103:=aN func115
  f206:=aN func163
  f210:=aN func159
  t3:=underlying3
  a3:=Tryz.isAgg3
  z3:=Tryz.sizeOf3
  v3:=Tryz.zeroValue3
  t4:=underlying4
  a4:=Tryz.isAgg4
  z4:=Tryz.sizeOf4
  v4:=Tryz.zeroValue4
  t9:=underlying9
  a9:=Tryz.isAgg9
  z9:=Tryz.sizeOf9
  v9:=Tryz.zeroValue9
  t24:=underlying51
  a24:=Tryz.isAgg51
  z24:=Tryz.sizeOf51
  v24:=Tryz.zeroValue51}
open Go.RowKit in
theorem Tryz.strings_CutPrefix (s p:ByteArray)(w:World):
    Calls prog 115 #[.string s,.string p] w fun e w'=>e= .returned (.tuple #[.string ⟨(Lib.trimPrefix s.data.toList p.data.toList).toArray⟩,.bool (Lib.hasPrefix s.data.toList p.data.toList)])/\ w'=w:=Any.strings_CutPrefix Tryz.Zx s p w
def Tryz.J6:Go.Shelf.Ren:=⟨fun|104=>78|211=>123|207=>169|n=>n,fun|9=>9|4=>4|24=>51|3=>3|n=>n,fun|n=>n⟩
theorem Tryz.Zy:Go.Proofs.Lays.n104 prog Tryz.J6:={
  mixed:=by kernel_rfl
  f104:=aN func78
  f207:=aN func169
  f211:=aN func123
  t3:=underlying3
  a3:=Tryz.isAgg3
  z3:=Tryz.sizeOf3
  v3:=Tryz.zeroValue3
  t4:=underlying4
  a4:=Tryz.isAgg4
  z4:=Tryz.sizeOf4
  v4:=Tryz.zeroValue4
  t9:=underlying9
  a9:=Tryz.isAgg9
  z9:=Tryz.sizeOf9
  v9:=Tryz.zeroValue9
  t24:=underlying51
  a24:=Tryz.isAgg51
  z24:=Tryz.sizeOf51
  v24:=Tryz.zeroValue51}
open Go.RowKit in
theorem Tryz.strings_CutSuffix (s p:ByteArray)(w:World)(hs:s.size<=9223372036854775807):
    Calls prog 78 #[.string s,.string p] w fun e w'=>e= .returned (.tuple #[.string ⟨(Lib.trimSuffix s.data.toList p.data.toList).toArray⟩,.bool (Lib.hasSuffix s.data.toList p.data.toList)])/\ w'=w:=Any.strings_CutSuffix Tryz.Zy s p w hs
open Go.RowKit in
theorem Tryz.Builder_String_any_k (B b:Nat)(l:List UInt8)(w:World)(h:Lib.IsBuilderF 99 5 B b (Lib.byteCells l) w)(hBw:B<=w.heap.size):
    Calls prog 40 #[.pointer (some ⟨b,0,none⟩)] w fun e w'=>e= .returned (.string ⟨l.toArray⟩)/\ (Lib.IsBuilderF 99 5 B b (Lib.byteCells l) w'/\ Below B w w'/\ Lib.OthersKept 5 (some b) w w'):=Any.Builder_String_any_k Tryz.Zu Tryz.uZ B b l w h hBw
def Tryz.FE:Go.Shelf.Ren:=⟨fun|171=>231|243=>259|246=>280|283=>288|284=>289|285=>290|286=>291|129=>298|317=>297|318=>299|319=>300|320=>301|337=>303|338=>304|n=>n,fun|3=>3|9=>9|2=>2|4=>4|171=>382|0=>0|53=>313|37=>97|5=>5|173=>385|212=>394|51=>291|20=>20|213=>395|46=>239|232=>402|233=>403|n=>n,fun|17=>14|18=>17|19=>18|n=>n⟩
theorem Tryz.Vp:Go.Proofs.LaysM.n171 prog Tryz.FE:={
  mixed:=by kernel_rfl
  f129:=aN func298
  f171:=aN func231
  f243:=aN func259
  f246:=aN func280
  f283:=aN func288
  f284:=aN func289
  f285:=aN func290
  f286:=aN func291
  f317:=aN func297
  f318:=aN func299
  f319:=aN func300
  f320:=aN func301
  f337:=aN func303
  f338:=aN func304
  t0:=underlying0
  a0:=Tryz.isAgg0
  z0:=Tryz.sizeOf0
  v0:=Tryz.zeroValue0
  t2:=underlying2
  a2:=Tryz.isAgg2
  z2:=Tryz.sizeOf2
  v2:=Tryz.zeroValue2
  t3:=underlying3
  a3:=Tryz.isAgg3
  z3:=Tryz.sizeOf3
  v3:=Tryz.zeroValue3
  t4:=underlying4
  a4:=Tryz.isAgg4
  z4:=Tryz.sizeOf4
  v4:=Tryz.zeroValue4
  t5:=underlying5
  a5:=Tryz.isAgg5
  z5:=Tryz.sizeOf5
  v5:=Tryz.zeroValue5
  t9:=underlying9
  a9:=Tryz.isAgg9
  z9:=Tryz.sizeOf9
  v9:=Tryz.zeroValue9
  t20:=underlying20
  a20:=Tryz.isAgg20
  z20:=Tryz.sizeOf20
  v20:=Tryz.zeroValue20
  t37:=underlying97
  a37:=Tryz.isAgg97
  z37:=Tryz.sizeOf97
  v37:=Tryz.zeroValue97
  t46:=underlying239
  a46:=Tryz.isAgg239
  z46:=Tryz.sizeOf239
  v46:=Tryz.zeroValue239
  t51:=underlying291
  a51:=Tryz.isAgg291
  z51:=Tryz.sizeOf291
  v51:=Tryz.zeroValue291
  t53:=underlying313
  a53:=Tryz.isAgg313
  z53:=Tryz.sizeOf313
  v53:=Tryz.zeroValue313
  t171:=underlying382
  a171:=Tryz.isAgg382
  z171:=Tryz.sizeOf382
  v171:=Tryz.zeroValue382
  t173:=underlying385
  a173:=Tryz.isAgg385
  z173:=Tryz.sizeOf385
  v173:=Tryz.zeroValue385
  t212:=underlying394
  a212:=Tryz.isAgg394
  z212:=Tryz.sizeOf394
  v212:=Tryz.zeroValue394
  t213:=underlying395
  a213:=Tryz.isAgg395
  z213:=Tryz.sizeOf395
  t232:=underlying402
  a232:=Tryz.isAgg402
  z232:=Tryz.sizeOf402
  v232:=Tryz.zeroValue402
  t233:=underlying403
  a233:=Tryz.isAgg403
  z233:=Tryz.sizeOf403
  v233:=Tryz.zeroValue403
  g17:=by kernel_rfl
  g18:=by kernel_rfl
  g19:=by kernel_rfl
  i0:=by kernel_rfl
  i2:=by kernel_rfl
  i3:=by kernel_rfl
  i4:=by kernel_rfl
  i5:=by kernel_rfl
  i9:=by kernel_rfl
  i20:=by kernel_rfl
  i37:=by kernel_rfl
  i46:=by kernel_rfl
  i51:=by kernel_rfl
  i53:=by kernel_rfl
  i171:=by kernel_rfl
  i173:=by kernel_rfl
  i212:=by kernel_rfl
  i232:=by kernel_rfl
  i233:=by kernel_rfl
  m17:=by kernel_rfl
  m18:=by kernel_rfl
  m19:=by kernel_rfl}
open Go.RowKit Go.Sort Go.Lib in
theorem Tryz.strconv_Itoa (n:Int)(h0: -9223372036854775808<=n)(h1:n<=9223372036854775807)(w:World)(htab:Lib.TabIs prog w "internal/strconv.uint64pow10" .u64 Lib.pow10Tab):
    Calls prog 231 #[.int .i64 n] w fun e w'=>e= .returned (.string ⟨(Lib.itoa n).toArray⟩)/\ ∃k os,w'=grow (w.drewN k) os:=Any.strconv_Itoa Tryz.Vp n h0 h1 w htab
def Tryz.FH:Go.Shelf.Ren:=⟨fun|172=>230|244=>257|245=>258|247=>275|279=>276|280=>277|281=>278|282=>279|287=>285|316=>286|171=>231|205=>287|321=>295|322=>296|243=>259|246=>280|283=>288|284=>289|285=>290|286=>291|129=>298|317=>297|318=>299|319=>300|320=>301|337=>303|338=>304|n=>n,fun|9=>9|3=>3|75=>33|76=>142|4=>4|5=>5|167=>369|37=>97|0=>0|85=>370|2=>2|168=>372|53=>313|175=>377|46=>239|210=>380|127=>165|145=>392|143=>390|21=>21|171=>382|173=>385|212=>394|51=>291|20=>20|213=>395|232=>402|233=>403|80=>60|n=>n,fun|15=>12|16=>13|17=>14|18=>17|19=>18|n=>n⟩
theorem Tryz.Ap:Go.Proofs.LaysC.n172 prog Tryz.FH:={
  mixed:=by kernel_rfl
  f129:=aN func298
  f171:=aN func231
  f172:=aN func230
  f205:=aN func287
  f243:=aN func259
  f244:=aN func257
  f245:=aN func258
  f246:=aN func280
  f247:=aN func275
  f279:=aN func276
  f280:=aN func277
  f281:=aN func278
  f282:=aN func279
  f283:=aN func288
  f284:=aN func289
  f285:=aN func290
  f286:=aN func291
  f287:=aN func285
  f316:=aN func286
  f317:=aN func297
  f318:=aN func299
  f319:=aN func300
  f320:=aN func301
  f321:=aN func295
  f322:=aN func296
  f337:=aN func303
  f338:=aN func304
  t0:=underlying0
  a0:=Tryz.isAgg0
  z0:=Tryz.sizeOf0
  v0:=Tryz.zeroValue0
  t2:=underlying2
  a2:=Tryz.isAgg2
  z2:=Tryz.sizeOf2
  v2:=Tryz.zeroValue2
  t3:=underlying3
  a3:=Tryz.isAgg3
  z3:=Tryz.sizeOf3
  v3:=Tryz.zeroValue3
  t4:=underlying4
  a4:=Tryz.isAgg4
  z4:=Tryz.sizeOf4
  v4:=Tryz.zeroValue4
  t5:=underlying5
  a5:=Tryz.isAgg5
  z5:=Tryz.sizeOf5
  v5:=Tryz.zeroValue5
  t9:=underlying9
  a9:=Tryz.isAgg9
  z9:=Tryz.sizeOf9
  v9:=Tryz.zeroValue9
  t20:=underlying20
  a20:=Tryz.isAgg20
  z20:=Tryz.sizeOf20
  v20:=Tryz.zeroValue20
  t21:=underlying21
  a21:=Tryz.isAgg21
  z21:=Tryz.sizeOf21
  v21:=Tryz.zeroValue21
  t37:=underlying97
  a37:=Tryz.isAgg97
  z37:=Tryz.sizeOf97
  v37:=Tryz.zeroValue97
  t46:=underlying239
  a46:=Tryz.isAgg239
  z46:=Tryz.sizeOf239
  v46:=Tryz.zeroValue239
  t51:=underlying291
  a51:=Tryz.isAgg291
  z51:=Tryz.sizeOf291
  v51:=Tryz.zeroValue291
  t53:=underlying313
  a53:=Tryz.isAgg313
  z53:=Tryz.sizeOf313
  v53:=Tryz.zeroValue313
  t75:=underlying33
  a75:=Tryz.isAgg33
  z75:=Tryz.sizeOf33
  v75:=Tryz.zeroValue33
  t76:=underlying142
  a76:=Tryz.isAgg142
  z76:=Tryz.sizeOf142
  v76:=Tryz.zeroValue142
  t85:=underlying370
  a85:=Tryz.isAgg370
  z85:=Tryz.sizeOf370
  v85:=Tryz.zeroValue370
  t127:=underlying165
  a127:=Tryz.isAgg165
  z127:=Tryz.sizeOf165
  v127:=Tryz.zeroValue165
  t143:=underlying390
  a143:=Tryz.isAgg390
  z143:=Tryz.sizeOf390
  v143:=Tryz.zeroValue390
  t145:=underlying392
  a145:=Tryz.isAgg392
  z145:=Tryz.sizeOf392
  v145:=Tryz.zeroValue392
  t167:=underlying369
  a167:=Tryz.isAgg369
  z167:=Tryz.sizeOf369
  v167:=Tryz.zeroValue369
  t168:=underlying372
  a168:=Tryz.isAgg372
  z168:=Tryz.sizeOf372
  v168:=Tryz.zeroValue372
  t171:=underlying382
  a171:=Tryz.isAgg382
  z171:=Tryz.sizeOf382
  v171:=Tryz.zeroValue382
  t173:=underlying385
  a173:=Tryz.isAgg385
  z173:=Tryz.sizeOf385
  v173:=Tryz.zeroValue385
  t175:=underlying377
  a175:=Tryz.isAgg377
  z175:=Tryz.sizeOf377
  v175:=Tryz.zeroValue377
  t210:=underlying380
  a210:=Tryz.isAgg380
  z210:=Tryz.sizeOf380
  v210:=Tryz.zeroValue380
  t212:=underlying394
  a212:=Tryz.isAgg394
  z212:=Tryz.sizeOf394
  v212:=Tryz.zeroValue394
  t213:=underlying395
  a213:=Tryz.isAgg395
  z213:=Tryz.sizeOf395
  t232:=underlying402
  a232:=Tryz.isAgg402
  z232:=Tryz.sizeOf402
  v232:=Tryz.zeroValue402
  t233:=underlying403
  a233:=Tryz.isAgg403
  z233:=Tryz.sizeOf403
  v233:=Tryz.zeroValue403
  g15:=by kernel_rfl
  g16:=by kernel_rfl
  g17:=by kernel_rfl
  g18:=by kernel_rfl
  g19:=by kernel_rfl
  t80:=underlying60
  a80:=Tryz.isAgg60
  z80:=Tryz.sizeOf60
  v80:=Tryz.zeroValue60
  i0:=by kernel_rfl
  i2:=by kernel_rfl
  i3:=by kernel_rfl
  i4:=by kernel_rfl
  i5:=by kernel_rfl
  i9:=by kernel_rfl
  i20:=by kernel_rfl
  i21:=by kernel_rfl
  i37:=by kernel_rfl
  i46:=by kernel_rfl
  i51:=by kernel_rfl
  i53:=by kernel_rfl
  i75:=by kernel_rfl
  i76:=by kernel_rfl
  i80:=by kernel_rfl
  i85:=by kernel_rfl
  i127:=by kernel_rfl
  i143:=by kernel_rfl
  i145:=by kernel_rfl
  i167:=by kernel_rfl
  i168:=by kernel_rfl
  i171:=by kernel_rfl
  i173:=by kernel_rfl
  i175:=by kernel_rfl
  i210:=by kernel_rfl
  i212:=by kernel_rfl
  i232:=by kernel_rfl
  i233:=by kernel_rfl
  m15:=by kernel_rfl
  m16:=by kernel_rfl
  m17:=by kernel_rfl
  m18:=by kernel_rfl
  m19:=by kernel_rfl
  c0:=by kernel_rfl
  c2:=by kernel_rfl
  c3:=by kernel_rfl
  c4:=by kernel_rfl
  c5:=by kernel_rfl
  c9:=by kernel_rfl
  c20:=by kernel_rfl
  c21:=by kernel_rfl
  c37:=by kernel_rfl
  c46:=by kernel_rfl
  c51:=by kernel_rfl
  c53:=by kernel_rfl
  c75:=by kernel_rfl
  c76:=by kernel_rfl
  c80:=by kernel_rfl
  c85:=by kernel_rfl
  c127:=by kernel_rfl
  c143:=by kernel_rfl
  c145:=by kernel_rfl
  c167:=by kernel_rfl
  c168:=by kernel_rfl
  c171:=by kernel_rfl
  c173:=by kernel_rfl
  c175:=by kernel_rfl
  c210:=by kernel_rfl
  c212:=by kernel_rfl
  c213:=by kernel_rfl
  c232:=by kernel_rfl
  c233:=by kernel_rfl}
open Go.RowKit in
theorem Tryz.strconv_Atoi_ok (s:ByteArray)(hmax:s.size<=9223372036854775806)(v:Int)(h:Lib.atoiAll s.data.toList= .ok v)(w:World):
    Calls prog 230 #[.string s] w fun e w'=>e= .returned (.tuple #[.int .i64 v,.nilIface])/\ (w'=w \/∃t,w'=Lib.bytesWorld w 5 t):=Any.strconv_Atoi_ok Tryz.Ap s hmax v h w
open Go.RowKit in
theorem Tryz.strconv_Atoi_syntax (s:ByteArray)(hlim:s.size<=281474976710656)(h:Lib.atoiAll s.data.toList= .«syntax»)(ev:Value)(w:World)(hv:w.cell? ⟨12,0,none⟩=some ev)(hev:ev= .nilIface \/∃te pe,ev= .iface te pe):
    Calls prog 230 #[.string s] w fun e w'=>∃N,e= .returned (.tuple #[.int .i64 (0),.iface 372 (.pointer (some ⟨N,0,none⟩))])/\ w.heap.size<=N/\ w'.heap[N]? =some (.cells #[.string ⟨#[65,116,111,105]⟩,.string s,ev] 380 (0,0))/\ Below w.heap.size w w':=Any.strconv_Atoi_syntax Tryz.Ap s hlim h ev w hv hev
open Go.RowKit in
theorem Tryz.strconv_Atoi_range (s:ByteArray)(hlim:s.size<=281474976710656)(h:Lib.atoiAll s.data.toList= .range)(ev:Value)(w:World)(hv:w.cell? ⟨13,0,none⟩=some ev)(hev:ev= .nilIface \/∃te pe,ev= .iface te pe):
    Calls prog 230 #[.string s] w fun e w'=>∃N,e= .returned (.tuple #[.int .i64 (Lib.atoiSat s.data.toList),.iface 372 (.pointer (some ⟨N,0,none⟩))])/\ w.heap.size<=N/\ w'.heap[N]? =some (.cells #[.string ⟨#[65,116,111,105]⟩,.string s,ev] 380 (0,0))/\ Below w.heap.size w w':=Any.strconv_Atoi_range Tryz.Ap s hlim h ev w hv hev
def Tryz.J7:Go.Shelf.Ren:=⟨fun|219=>122|217=>160|225=>166|224=>167|267=>168|266=>209|314=>211|n=>n,fun|9=>9|3=>3|4=>4|5=>5|46=>239|146=>292|51=>291|n=>n,fun|1=>10|n=>n⟩
theorem Tryz.Zz:Go.Proofs.Lays.n219 prog Tryz.J7:={
  mixed:=by kernel_rfl
  f217:=aN func160
  f219:=aN func122
  f224:=aN func167
  f225:=aN func166
  f266:=aN func209
  f267:=aN func168
  f314:=aN func211
  t3:=underlying3
  a3:=Tryz.isAgg3
  z3:=Tryz.sizeOf3
  v3:=Tryz.zeroValue3
  t4:=underlying4
  a4:=Tryz.isAgg4
  z4:=Tryz.sizeOf4
  v4:=Tryz.zeroValue4
  t5:=underlying5
  a5:=Tryz.isAgg5
  z5:=Tryz.sizeOf5
  v5:=Tryz.zeroValue5
  t9:=underlying9
  a9:=Tryz.isAgg9
  z9:=Tryz.sizeOf9
  v9:=Tryz.zeroValue9
  t46:=underlying239
  a46:=Tryz.isAgg239
  z46:=Tryz.sizeOf239
  v46:=Tryz.zeroValue239
  t51:=underlying291
  a51:=Tryz.isAgg291
  z51:=Tryz.sizeOf291
  v51:=Tryz.zeroValue291
  t146:=underlying292
  a146:=Tryz.isAgg292
  z146:=Tryz.sizeOf292
  v146:=Tryz.zeroValue292
  g1:=by kernel_rfl}
open Go.RowKit Go.Lib in
theorem Tryz.stringslite_Index_one (s:ByteArray)(c:UInt8)(w:World):
    Calls prog 122 #[.string s,.string ⟨#[c]⟩] w fun e w'=>e= .returned (.int .i64 (Lib.indexByte s.data.toList c))/\ w'=w:=Any.stringslite_Index_one Tryz.Zz s c w
def Tryz.J8:Go.Shelf.Ren:=⟨fun|143=>283|219=>122|217=>160|225=>166|224=>167|267=>168|266=>209|314=>211|n=>n,fun|9=>9|3=>3|4=>4|5=>5|46=>239|146=>292|51=>291|n=>n,fun|1=>10|n=>n⟩
theorem Tryz.ZA:Go.Proofs.Lays.n143 prog Tryz.J8:={
  mixed:=by kernel_rfl
  f143:=aN func283
  f217:=aN func160
  f219:=aN func122
  f224:=aN func167
  f225:=aN func166
  f266:=aN func209
  f267:=aN func168
  f314:=aN func211
  t3:=underlying3
  a3:=Tryz.isAgg3
  z3:=Tryz.sizeOf3
  v3:=Tryz.zeroValue3
  t4:=underlying4
  a4:=Tryz.isAgg4
  z4:=Tryz.sizeOf4
  v4:=Tryz.zeroValue4
  t5:=underlying5
  a5:=Tryz.isAgg5
  z5:=Tryz.sizeOf5
  v5:=Tryz.zeroValue5
  t9:=underlying9
  a9:=Tryz.isAgg9
  z9:=Tryz.sizeOf9
  v9:=Tryz.zeroValue9
  t46:=underlying239
  a46:=Tryz.isAgg239
  z46:=Tryz.sizeOf239
  v46:=Tryz.zeroValue239
  t51:=underlying291
  a51:=Tryz.isAgg291
  z51:=Tryz.sizeOf291
  v51:=Tryz.zeroValue291
  t146:=underlying292
  a146:=Tryz.isAgg292
  z146:=Tryz.sizeOf292
  v146:=Tryz.zeroValue292
  g1:=by kernel_rfl}
def Tryz.J9:Go.Shelf.Ren:=⟨fun|145=>44|220=>77|219=>122|217=>160|225=>166|224=>167|267=>168|266=>209|314=>211|n=>n,fun|9=>9|4=>4|59=>105|3=>3|5=>5|46=>239|146=>292|51=>291|n=>n,fun|1=>10|n=>n⟩
theorem Tryz.ZB:Go.Proofs.Lays.n145 prog Tryz.J9:={
  mixed:=by kernel_rfl
  f145:=aN func44
  f217:=aN func160
  f219:=aN func122
  f220:=aN func77
  f224:=aN func167
  f225:=aN func166
  f266:=aN func209
  f267:=aN func168
  f314:=aN func211
  t3:=underlying3
  a3:=Tryz.isAgg3
  z3:=Tryz.sizeOf3
  v3:=Tryz.zeroValue3
  t4:=underlying4
  a4:=Tryz.isAgg4
  z4:=Tryz.sizeOf4
  v4:=Tryz.zeroValue4
  t5:=underlying5
  a5:=Tryz.isAgg5
  z5:=Tryz.sizeOf5
  v5:=Tryz.zeroValue5
  t9:=underlying9
  a9:=Tryz.isAgg9
  z9:=Tryz.sizeOf9
  v9:=Tryz.zeroValue9
  t46:=underlying239
  a46:=Tryz.isAgg239
  z46:=Tryz.sizeOf239
  v46:=Tryz.zeroValue239
  t51:=underlying291
  a51:=Tryz.isAgg291
  z51:=Tryz.sizeOf291
  v51:=Tryz.zeroValue291
  t59:=underlying105
  a59:=Tryz.isAgg105
  z59:=Tryz.sizeOf105
  v59:=Tryz.zeroValue105
  t146:=underlying292
  a146:=Tryz.isAgg292
  z146:=Tryz.sizeOf292
  v146:=Tryz.zeroValue292
  g1:=by kernel_rfl}
open Go.RowKit Go.Lib in
theorem Tryz.strings_Cut (s sep:ByteArray)(m:Int)(w:World)(hs:s.size< 4294967281)(hm:w.cell? ⟨10,0,none⟩=some (.int .i64 m)):
    Calls prog 44 #[.string s,.string sep] w fun e w'=>e= .returned (.tuple #[.string ⟨(Lib.cut s.data.toList sep.data.toList).1.toArray⟩,.string ⟨(Lib.cut s.data.toList sep.data.toList).2.1.toArray⟩,.bool (Lib.cut s.data.toList sep.data.toList).2.2])/\ ∃n,w'=w.drewN n:=Any.strings_Cut Tryz.ZB s sep m w hs hm
def Tryz.Ja:Go.Shelf.Ren:=⟨fun|138=>282|195=>292|218=>294|143=>283|219=>122|217=>160|225=>166|224=>167|267=>168|266=>209|314=>211|n=>n,fun|9=>9|3=>3|4=>4|5=>5|0=>0|46=>239|146=>292|51=>291|n=>n,fun|1=>10|n=>n⟩
theorem Tryz.ZC:Go.Proofs.Lays.n138 prog Tryz.Ja:={
  mixed:=by kernel_rfl
  f138:=aN func282
  f143:=aN func283
  f195:=aN func292
  f217:=aN func160
  f218:=aN func294
  f219:=aN func122
  f224:=aN func167
  f225:=aN func166
  f266:=aN func209
  f267:=aN func168
  f314:=aN func211
  t0:=underlying0
  a0:=Tryz.isAgg0
  z0:=Tryz.sizeOf0
  v0:=Tryz.zeroValue0
  t3:=underlying3
  a3:=Tryz.isAgg3
  z3:=Tryz.sizeOf3
  v3:=Tryz.zeroValue3
  t4:=underlying4
  a4:=Tryz.isAgg4
  z4:=Tryz.sizeOf4
  v4:=Tryz.zeroValue4
  t5:=underlying5
  a5:=Tryz.isAgg5
  z5:=Tryz.sizeOf5
  v5:=Tryz.zeroValue5
  t9:=underlying9
  a9:=Tryz.isAgg9
  z9:=Tryz.sizeOf9
  v9:=Tryz.zeroValue9
  t46:=underlying239
  a46:=Tryz.isAgg239
  z46:=Tryz.sizeOf239
  v46:=Tryz.zeroValue239
  t51:=underlying291
  a51:=Tryz.isAgg291
  z51:=Tryz.sizeOf291
  v51:=Tryz.zeroValue291
  t146:=underlying292
  a146:=Tryz.isAgg292
  z146:=Tryz.sizeOf292
  v146:=Tryz.zeroValue292
  g1:=by kernel_rfl}
def Tryz.FI:Go.Shelf.Ren:=⟨fun|145=>44|220=>77|219=>122|217=>160|225=>166|224=>167|267=>168|266=>209|314=>211|n=>n,fun|9=>9|4=>4|59=>105|3=>3|5=>5|46=>239|146=>292|51=>291|n=>n,fun|1=>10|n=>n⟩
theorem Tryz.Vq:Go.Proofs.LaysM.n145 prog Tryz.FI:={
  mixed:=by kernel_rfl
  f145:=aN func44
  f217:=aN func160
  f219:=aN func122
  f220:=aN func77
  f224:=aN func167
  f225:=aN func166
  f266:=aN func209
  f267:=aN func168
  f314:=aN func211
  t3:=underlying3
  a3:=Tryz.isAgg3
  z3:=Tryz.sizeOf3
  v3:=Tryz.zeroValue3
  t4:=underlying4
  a4:=Tryz.isAgg4
  z4:=Tryz.sizeOf4
  v4:=Tryz.zeroValue4
  t5:=underlying5
  a5:=Tryz.isAgg5
  z5:=Tryz.sizeOf5
  v5:=Tryz.zeroValue5
  t9:=underlying9
  a9:=Tryz.isAgg9
  z9:=Tryz.sizeOf9
  v9:=Tryz.zeroValue9
  t46:=underlying239
  a46:=Tryz.isAgg239
  z46:=Tryz.sizeOf239
  v46:=Tryz.zeroValue239
  t51:=underlying291
  a51:=Tryz.isAgg291
  z51:=Tryz.sizeOf291
  v51:=Tryz.zeroValue291
  t59:=underlying105
  a59:=Tryz.isAgg105
  z59:=Tryz.sizeOf105
  v59:=Tryz.zeroValue105
  t146:=underlying292
  a146:=Tryz.isAgg292
  z146:=Tryz.sizeOf292
  v146:=Tryz.zeroValue292
  g1:=by kernel_rfl
  i3:=by kernel_rfl
  i4:=by kernel_rfl
  i5:=by kernel_rfl
  i9:=by kernel_rfl
  i46:=by kernel_rfl
  i51:=by kernel_rfl
  i59:=by kernel_rfl
  i146:=by kernel_rfl
  m1:=by kernel_rfl
  s1_3:=fun w h=>Go.Proofs.cell_of_shapedOpen_int (zero:=#[.int .i64 0]) (t:=3) h (of_decide_eq_true (by kernel_rfl)) (by kernel_rfl) rfl (by kernel_rfl) (by kernel_rfl) underlying3}
def Tryz.Jb:Go.Shelf.Ren:=⟨fun|149=>213|222=>247|n=>n,fun|9=>9|5=>5|3=>3|4=>4|n=>n,fun|n=>n⟩
theorem Tryz.ZE:Go.Proofs.Lays.n149 prog Tryz.Jb:={
  mixed:=by kernel_rfl
  f149:=aN func213
  f222:=aN func247
  t3:=underlying3
  a3:=Tryz.isAgg3
  z3:=Tryz.sizeOf3
  v3:=Tryz.zeroValue3
  t4:=underlying4
  a4:=Tryz.isAgg4
  z4:=Tryz.sizeOf4
  v4:=Tryz.zeroValue4
  t5:=underlying5
  a5:=Tryz.isAgg5
  z5:=Tryz.sizeOf5
  v5:=Tryz.zeroValue5
  t9:=underlying9
  a9:=Tryz.isAgg9
  z9:=Tryz.sizeOf9
  v9:=Tryz.zeroValue9}
open Go.RowKit Go.Lib in
theorem Tryz.strings_LastIndexByte (s:ByteArray)(c:Int)(hs:s.size< 4611686018427387904)(w:World):
    Calls prog 213 #[.string s,.int .u8 c] w fun e w'=>e= .returned (.int .i64 (Lib.lastIndexByte s c))/\ w'=w:=Any.strings_LastIndexByte Tryz.ZE s c hs w
def Tryz.FJ:Go.Shelf.Ren:=⟨fun|17=>124|15=>170|20=>212|n=>n,fun|9=>9|23=>205|4=>4|3=>3|0=>0|21=>21|n=>n,fun|n=>n⟩
theorem Tryz.Vr:Go.Proofs.LaysGw.n17 prog Tryz.FJ:={
  mixed:=by kernel_rfl
  f15:=aN func170
  f17:=aN func124
  f20:=aN func212
  t0:=underlying0
  a0:=Tryz.isAgg0
  z0:=Tryz.sizeOf0
  v0:=Tryz.zeroValue0
  i0:=by kernel_rfl
  t3:=underlying3
  a3:=Tryz.isAgg3
  z3:=Tryz.sizeOf3
  v3:=Tryz.zeroValue3
  i3:=by kernel_rfl
  t4:=underlying4
  a4:=Tryz.isAgg4
  z4:=Tryz.sizeOf4
  v4:=Tryz.zeroValue4
  i4:=by kernel_rfl
  t9:=underlying9
  a9:=Tryz.isAgg9
  z9:=Tryz.sizeOf9
  v9:=Tryz.zeroValue9
  i9:=by kernel_rfl
  t21:=underlying21
  a21:=Tryz.isAgg21
  z21:=Tryz.sizeOf21
  v21:=Tryz.zeroValue21
  i21:=by kernel_rfl
  t23:=underlying205
  a23:=Tryz.isAgg205
  z23:=Tryz.sizeOf205
  v23:=Tryz.zeroValue205
  i23:=by kernel_rfl}
open Go.RowKit Go.Lib in
theorem Tryz.strings_ContainsFunc (g:Nat)(lb:Array Value)(eg:∀args w,(callFunc g args).run prog w= .ok (.enter g args) w)(p:Nat ->Bool)(s:ByteArray)(w:World)(hp:PredAt prog g lb encR p w):
    Calls prog 124 #[.string s,.func (.func g) #[] lb] w fun e w'=>e= .returned (.bool (decide (0<=Lib.idxFunc p true s)))/\ Below w.heap.size w w':=Any.strings_ContainsFunc Tryz.Vr g lb eg p s w hp
def Tryz.Jc:Go.Shelf.Ren:=⟨fun|221=>264|268=>281|138=>282|143=>283|195=>292|197=>293|218=>294|219=>122|260=>302|217=>160|225=>166|224=>167|267=>168|266=>209|314=>211|n=>n,fun|9=>9|3=>3|31=>38|4=>4|0=>0|105=>387|21=>21|5=>5|46=>239|119=>398|139=>401|138=>400|146=>292|51=>291|n=>n,fun|1=>10|3=>15|4=>16|n=>n⟩
theorem Tryz.ZF:Go.Proofs.Lays.n221 prog Tryz.Jc:={
  mixed:=by kernel_rfl
  f138:=aN func282
  f143:=aN func283
  f195:=aN func292
  f197:=aN func293
  f217:=aN func160
  f218:=aN func294
  f219:=aN func122
  f221:=aN func264
  f224:=aN func167
  f225:=aN func166
  f260:=aN func302
  f266:=aN func209
  f267:=aN func168
  f268:=aN func281
  f314:=aN func211
  t0:=underlying0
  a0:=Tryz.isAgg0
  z0:=Tryz.sizeOf0
  v0:=Tryz.zeroValue0
  t3:=underlying3
  a3:=Tryz.isAgg3
  z3:=Tryz.sizeOf3
  v3:=Tryz.zeroValue3
  t4:=underlying4
  a4:=Tryz.isAgg4
  z4:=Tryz.sizeOf4
  v4:=Tryz.zeroValue4
  t5:=underlying5
  a5:=Tryz.isAgg5
  z5:=Tryz.sizeOf5
  v5:=Tryz.zeroValue5
  t9:=underlying9
  a9:=Tryz.isAgg9
  z9:=Tryz.sizeOf9
  v9:=Tryz.zeroValue9
  t21:=underlying21
  a21:=Tryz.isAgg21
  z21:=Tryz.sizeOf21
  v21:=Tryz.zeroValue21
  t31:=underlying38
  a31:=Tryz.isAgg38
  z31:=Tryz.sizeOf38
  v31:=Tryz.zeroValue38
  t46:=underlying239
  a46:=Tryz.isAgg239
  z46:=Tryz.sizeOf239
  v46:=Tryz.zeroValue239
  t51:=underlying291
  a51:=Tryz.isAgg291
  z51:=Tryz.sizeOf291
  v51:=Tryz.zeroValue291
  t105:=underlying387
  a105:=Tryz.isAgg387
  z105:=Tryz.sizeOf387
  v105:=Tryz.zeroValue387
  t119:=underlying398
  a119:=Tryz.isAgg398
  z119:=Tryz.sizeOf398
  t138:=underlying400
  a138:=Tryz.isAgg400
  z138:=Tryz.sizeOf400
  v138:=Tryz.zeroValue400
  t139:=underlying401
  a139:=Tryz.isAgg401
  z139:=Tryz.sizeOf401
  v139:=Tryz.zeroValue401
  t146:=underlying292
  a146:=Tryz.isAgg292
  z146:=Tryz.sizeOf292
  v146:=Tryz.zeroValue292
  g1:=by kernel_rfl
  g3:=by kernel_rfl
  g4:=by kernel_rfl}
def Tryz.Jd:Go.Shelf.Ren:=⟨fun|152=>248|137=>117|119=>272|224=>167|225=>166|217=>160|266=>209|n=>n,fun|9=>9|21=>21|3=>3|4=>4|5=>5|0=>0|46=>239|n=>n,fun|n=>n⟩
theorem Tryz.ZG:Go.Proofs.Lays.n152 prog Tryz.Jd:={
  mixed:=by kernel_rfl
  f119:=aN func272
  f137:=aN func117
  f152:=aN func248
  f217:=aN func160
  f224:=aN func167
  f225:=aN func166
  f266:=aN func209
  t0:=underlying0
  a0:=Tryz.isAgg0
  z0:=Tryz.sizeOf0
  v0:=Tryz.zeroValue0
  t3:=underlying3
  a3:=Tryz.isAgg3
  z3:=Tryz.sizeOf3
  v3:=Tryz.zeroValue3
  t4:=underlying4
  a4:=Tryz.isAgg4
  z4:=Tryz.sizeOf4
  v4:=Tryz.zeroValue4
  t5:=underlying5
  a5:=Tryz.isAgg5
  z5:=Tryz.sizeOf5
  v5:=Tryz.zeroValue5
  t9:=underlying9
  a9:=Tryz.isAgg9
  z9:=Tryz.sizeOf9
  v9:=Tryz.zeroValue9
  t21:=underlying21
  a21:=Tryz.isAgg21
  z21:=Tryz.sizeOf21
  v21:=Tryz.zeroValue21
  t46:=underlying239
  a46:=Tryz.isAgg239
  z46:=Tryz.sizeOf239
  v46:=Tryz.zeroValue239}
open Go.RowKit Go.Lib in
theorem Tryz.strings_IndexRune_ascii (s:ByteArray)(r:Int)(w:World)(h0:0<=r)(h1:r< 128):
    Calls prog 248 #[.string s,.int .i32 r] w fun e w'=>e= .returned (.int .i64 (Lib.indexByte s.data.toList r.toNat.toUInt8))/\ w'=w:=Any.strings_IndexRune_ascii Tryz.ZG s r w h0 h1
def Tryz.Je:Go.Shelf.Ren:=⟨fun|226=>249|n=>n,fun|3=>3|4=>4|n=>n,fun|n=>n⟩
theorem Tryz.ZH:Go.Proofs.Lays.n226 prog Tryz.Je:={
  mixed:=by kernel_rfl
  f226:=aN func249
  t3:=underlying3
  a3:=Tryz.isAgg3
  z3:=Tryz.sizeOf3
  v3:=Tryz.zeroValue3
  t4:=underlying4
  a4:=Tryz.isAgg4
  z4:=Tryz.sizeOf4
  v4:=Tryz.zeroValue4}
open Go.RowKit Go.Lib in
theorem Tryz.strings_shouldUseASCIISet (n:Int)(w:World):
    Calls prog 249 #[.int .i64 n] w fun e w'=>e= .returned (.bool (decide (8< n)))/\ w'=w:=Any.strings_shouldUseASCIISet Tryz.ZH n w
def Tryz.Jf:Go.Shelf.Ren:=⟨fun|153=>215|152=>248|226=>249|227=>250|228=>251|137=>117|119=>272|224=>167|225=>166|217=>160|266=>209|n=>n,fun|9=>9|3=>3|4=>4|5=>5|21=>21|117=>348|116=>347|0=>0|46=>239|124=>366|n=>n,fun|n=>n⟩
theorem Tryz.ZI:Go.Proofs.Lays.n153 prog Tryz.Jf:={
  mixed:=by kernel_rfl
  f119:=aN func272
  f137:=aN func117
  f152:=aN func248
  f153:=aN func215
  f217:=aN func160
  f224:=aN func167
  f225:=aN func166
  f226:=aN func249
  f227:=aN func250
  f228:=aN func251
  f266:=aN func209
  t0:=underlying0
  a0:=Tryz.isAgg0
  z0:=Tryz.sizeOf0
  v0:=Tryz.zeroValue0
  t3:=underlying3
  a3:=Tryz.isAgg3
  z3:=Tryz.sizeOf3
  v3:=Tryz.zeroValue3
  t4:=underlying4
  a4:=Tryz.isAgg4
  z4:=Tryz.sizeOf4
  v4:=Tryz.zeroValue4
  t5:=underlying5
  a5:=Tryz.isAgg5
  z5:=Tryz.sizeOf5
  v5:=Tryz.zeroValue5
  t9:=underlying9
  a9:=Tryz.isAgg9
  z9:=Tryz.sizeOf9
  v9:=Tryz.zeroValue9
  t21:=underlying21
  a21:=Tryz.isAgg21
  z21:=Tryz.sizeOf21
  v21:=Tryz.zeroValue21
  t46:=underlying239
  a46:=Tryz.isAgg239
  z46:=Tryz.sizeOf239
  v46:=Tryz.zeroValue239
  t116:=underlying347
  a116:=Tryz.isAgg347
  z116:=Tryz.sizeOf347
  t117:=underlying348
  a117:=Tryz.isAgg348
  z117:=Tryz.sizeOf348
  v117:=Tryz.zeroValue348
  t124:=underlying366
  a124:=Tryz.isAgg366
  z124:=Tryz.sizeOf366
  v124:=Tryz.zeroValue366}
open Go.RowKit Go.Lib in
theorem Tryz.strings_IndexAny_long (hv116:∀w,(zeroValue 347).run prog w= .ok (.agg (Array.replicate 256 (.bool false))) w)(s chars:ByteArray)(w:World)(h2:2<=chars.size)(h8:8< s.size)(hs:s.size< 4294967281)(hcs:chars.size< 4294967281)(hascii:∀(j:Nat) b,chars.data.toList[j]? =some b ->b.toNat< 128):
    Calls prog 215 #[.string s,.string chars] w fun e w'=>e= .returned (.int .i64 (Lib.indexAny s.data.toList chars.data.toList))/\ w'=((w.alloc (.cells (Lib.setCells chars.data.toList) 347)).alloc (.cells (Lib.setCells chars.data.toList) 347)):=Any.strings_IndexAny_long Tryz.ZI hv116 (by kernel_rfl) s chars w h2 h8 hs hcs hascii
def Tryz.Jg:Go.Shelf.Ren:=⟨fun|110=>255|109=>273|n=>n,fun|31=>38|9=>9|4=>4|3=>3|0=>0|n=>n,fun|n=>n⟩
theorem Tryz.ZJ:Go.Proofs.Lays.n110 prog Tryz.Jg:={
  mixed:=by kernel_rfl
  f109:=aN func273
  f110:=aN func255
  t0:=underlying0
  a0:=Tryz.isAgg0
  z0:=Tryz.sizeOf0
  v0:=Tryz.zeroValue0
  t3:=underlying3
  a3:=Tryz.isAgg3
  z3:=Tryz.sizeOf3
  v3:=Tryz.zeroValue3
  t4:=underlying4
  a4:=Tryz.isAgg4
  z4:=Tryz.sizeOf4
  v4:=Tryz.zeroValue4
  t9:=underlying9
  a9:=Tryz.isAgg9
  z9:=Tryz.sizeOf9
  v9:=Tryz.zeroValue9
  t31:=underlying38
  a31:=Tryz.isAgg38
  z31:=Tryz.sizeOf38
  v31:=Tryz.zeroValue38}
open Go.Lib in
theorem Tryz.slices_Contains_string (b off n c:Nat)(zs:List ByteArray)(x:ByteArray)(w:World)(hz:n<=zs.length)(hbig:n<=9223372036854775807)(hc:∀j,j< zs.length ->w.cell? ⟨b,off+j,none⟩=some (.string (zs.getD j ByteArray.empty))):
    Calls prog 255 #[.slice (some ⟨b,off,none⟩) n c,.string x] w fun e w'=>e= .returned (.bool (Lib.containsS (zs.take n) x))/\ w'=w:=Any.slices_Contains_string Tryz.ZJ b off n c zs x w hz hbig hc
end Go.Proofs
namespace Go.Proofs.YtjfiehbcamfdfaaGreatDoor
open Go.Proofs.Tryz
set_option maxHeartbeats 8000000
section
open Go.RowKit
def ahead (c:UInt8):List UInt8->List UInt8
 |[]=>[]
 |b::l=>if b=c then[] else b::ahead c l
def behind (c:UInt8):List UInt8->Option (List UInt8)
 |[]=>none
 |b::l=>if b=c then some l else behind c l
theorem index_none (c:UInt8):∀l:List UInt8,behind c l=none->Lib.indexByte l c= -1/\ahead c l=l
 |[],_=>⟨rfl,rfl⟩
 |b::l,h=>by
  unfold behind at h;split at h
  ·cases h
  ·rename_i hb;obtain⟨h1,h2⟩:=index_none c l h;unfold Lib.indexByte ahead;simp[hb,h1,h2]
theorem nP (c:UInt8):∀(l r:List UInt8),behind c l=some r->∃i:Nat,Lib.indexByte l c=i/\i<l.length/\l.take i=ahead c l/\l.drop (i+1)=r
 |[],_,h=>by cases h
 |b::l,r,h=>by
  unfold behind at h;split at h
  ·rename_i hb;subst hb;cases h;exact⟨0,by unfold Lib.indexByte;simp,by simp,by unfold ahead;simp,rfl⟩
  ·rename_i hb;obtain⟨i,h1,h2,h3,h4⟩:=nP c l r h;refine⟨i+1,?_,by simpa using h2,?_,by simpa using h4⟩
   ·unfold Lib.indexByte;have:((i:Int)== -1)=false:=by rw[beq_eq_false_iff_ne];omega
    simp[hb,h1,this]
   ·unfold ahead;simp[hb,h3]
theorem ext_list {s t:aD}(h:s.data.toList=t.data.toList):s=t:=by
 apply ByteArray.ext;exact Array.toList_inj.1 h
theorem Vs (s:aD)(w:ag)(h:behind 47 s.data.toList=none):
  ax 77 #[.string s,.string ⟨#[47]⟩] w fun e w'=>e=.returned (.tuple #[.string s,.string ⟨#[]⟩,.bool false])/\∃k,w'=w.drewN k:=by
 obtain⟨hi,_⟩:=index_none 47 _ h;have HI:=Tryz.stringslite_Index_one s 47;rw[hi] at HI;have HH:=aj HI;clear HI hi h;go_enter func77,ntmps77;go_wp2_with(go_at_call 122;refine(HH.out _).mono ?_;rintro e w' ⟨rfl,rfl⟩);go_ret3;exact⟨rfl,0,rfl⟩
theorem Vt (s a b:aD)(w:ag)(hb:behind 47 s.data.toList=some b.data.toList)(ha:ahead 47 s.data.toList=a.data.toList)(hm:s.size<=9223372036854775807):
  ax 77 #[.string s,.string ⟨#[47]⟩] w fun e w'=>e=.returned (.tuple #[.string a,.string b,.bool true])/\∃k,w'=w.drewN k:=by
 obtain⟨i,hi,hl,h3,h4⟩:=nP 47 _ _ hb;rw[jG] at hl;have HI:=Tryz.stringslite_Index_one s 47;rw[hi] at HI;have HH:=aj HI;have e1:s.extract 0 i=a:=ext_list (by rw[Lib.extract_data];simpa[ha] using h3);have e2:s.extract (i+1) s.size=b:=ext_list (by rw[Lib.extract_to_end];exact h4);clear HI hi h3 h4 ha hb;have h0:(0:Int)<=(i:Int):=by omega
 go_enter func77,ntmps77;go_wp2_with(go_at_call 122;refine(HH.out _).mono ?_;rintro e w' ⟨rfl,rfl⟩)
 go_quiet (fail)
 go_wp2;go_ret3;exact⟨rfl,_,rfl⟩
theorem Aq (s:aD)(w:ag)(h:behind 47 s.data.toList=none):
  ax 44 #[.string s,.string ⟨#[47]⟩] w fun e w'=>e=.returned (.tuple #[.string s,.string ⟨#[]⟩,.bool false])/\∃k,w'=w.drewN k:=by
 have HB:=aj h;clear h;go_enter func44,ntmps44;go_wp2_with(go_at_call 77;refine(Vs s _ HB.out).mono ?_;rintro e w' ⟨rfl,k,rfl⟩);go_ret3;exact⟨rfl,_,rfl⟩
theorem qo (s a b:aD)(w:ag)(hb:behind 47 s.data.toList=some b.data.toList)(ha:ahead 47 s.data.toList=a.data.toList)(hm:s.size<=9223372036854775807):
  ax 44 #[.string s,.string ⟨#[47]⟩] w fun e w'=>e=.returned (.tuple #[.string a,.string b,.bool true])/\∃k,w'=w.drewN k:=by
 have HB:=aj hb;have HA:=aj ha;clear ha hb;go_enter func44,ntmps44;go_wp2_with(go_at_call 77;refine(Vt s a b _ HB.out HA.out hm).mono ?_;rintro e w' ⟨rfl,k,rfl⟩);go_ret3;exact⟨rfl,_,rfl⟩
def kZ (l:List UInt8):Option Int:=
 if uY (Lib.trimPrefix l [45])=true/\¬(Lib.hasPrefix l [45]=true/\val (Lib.trimPrefix l [45])=0) then some (if Lib.hasPrefix l [45]=true then -(val (Lib.trimPrefix l [45]):Int) else val (Lib.trimPrefix l [45])) else none
theorem tX {l:List UInt8}(h:uY l=true):(val l:Int)<10000000000:=by
 unfold uY at h;rw[Bool.and_eq_true] at h;have:=a3a h.2 (Al.1 h.1).2.1;omega
theorem iZ (s:aD)(b:Bool)(v:Int)(w:ag)(hb:uY s.data.toList=b)(hv:(if b=true then(val s.data.toList:Int) else 0)=v):
  ax 261 #[.string s] w fun e w'=>e=.returned (.tuple #[aa v,.bool b])/\w'=w:=by
 subst hb;subst hv;exact Ao s w
theorem ko (s t:aD)(b:Bool)(w:ag)(ht:Lib.trimPrefix s.data.toList [45]=t.data.toList)(hb:Lib.hasPrefix s.data.toList [45]=b):
  ax 115 #[.string s,.string ⟨#[45]⟩] w fun e w'=>e=.returned (.tuple #[.string t,.bool b])/\w'=w:=by
 have:=Tryz.strings_CutPrefix s ⟨#[45]⟩ w;have e:(⟨(Lib.trimPrefix s.data.toList [45]).toArray⟩:aD)=t:=ext_list (by rw[ht]);subst hb;rw[<- e];exact this
theorem yo (s:aD)(b:Bool)(v:Int)(w:ag)(h:kZ s.data.toList=none/\b=false/\v=0\/kZ s.data.toList=some v/\b=true):
  ax 260 #[.string s] w fun e w'=>e=.returned (.tuple #[aa v,.bool b])/\w'=w:=by
 obtain⟨t,ht⟩:∃t:aD,Lib.trimPrefix s.data.toList [45]=t.data.toList:=⟨⟨(Lib.trimPrefix s.data.toList [45]).toArray⟩,by simp⟩;obtain⟨neg,hn⟩:∃neg,Lib.hasPrefix s.data.toList [45]=neg:=⟨_,rfl⟩;obtain⟨d,hd⟩:∃d,uY t.data.toList=d:=⟨_,rfl⟩;have h':=h;unfold kZ at h';rw[ht,hn,hd] at h';have HT:=aj ht;have HN:=aj hn;clear h ht hn;cases d with
 |false=>
  obtain⟨rfl,rfl⟩:b=false/\v=0:=by rcases h' with⟨_,a,c⟩|⟨a,_⟩;exact⟨a,c⟩;simp at a
  have HD:=aj hd;clear h' hd;go_enter func260,ntmps260;go_wp2_with(first|(go_at_call 115;refine(ko s t neg _ HT.out HN.out).mono ?_;rintro e w' ⟨rfl,rfl⟩)|(go_at_call 261;refine(iZ t false 0 _ HD.out (by simp)).mono ?_;rintro e w' ⟨rfl,rfl⟩))
  go_ret2
  exact⟨rfl,rfl⟩
 |true=>
  have hv:=tX hd;obtain⟨m,hm⟩:∃m:Nat,val t.data.toList=m:=⟨_,rfl⟩;rw[hm] at h' hv;have HD:=aj hd;have HM:Hid ((if true=true then(val t.data.toList:Int) else 0)=m):=by show _=_;rw[if_pos rfl,hm]
  clear hd hm;cases neg with
  |false=>
   obtain⟨rfl,rfl⟩:b=true/\v=m:=by
    rcases h' with⟨a,_,_⟩|⟨a,c⟩
    ·simp at a
    ·simp at a;exact⟨c,a.symm⟩
   clear h';go_enter func260,ntmps260;go_wp2_with(first|(go_at_call 115;refine(ko s t false _ HT.out HN.out).mono ?_;rintro e w' ⟨rfl,rfl⟩)|(go_at_call 261;refine(iZ t true m _ HD.out HM.out).mono ?_;rintro e w' ⟨rfl,rfl⟩))
   go_ret2
   exact⟨rfl,rfl⟩
  |true=>
   by_cases hz:m=0
   ·subst hz;obtain⟨rfl,rfl⟩:b=false/\v=0:=by
     rcases h' with⟨_,a,c⟩|⟨a,_⟩
     ·exact⟨a,c⟩
     ·simp at a
    clear h';go_enter func260,ntmps260;go_wp2_with(first|(go_at_call 115;refine(ko s t true _ HT.out HN.out).mono ?_;rintro e w' ⟨rfl,rfl⟩)|(go_at_call 261;refine(iZ t true 0 _ HD.out HM.out).mono ?_;rintro e w' ⟨rfl,rfl⟩))
    go_ret2
    exact⟨rfl,rfl⟩
   ·obtain⟨rfl,rfl⟩:b=true/\v= -(m:Int):=by
     rcases h' with⟨a,_,_⟩|⟨a,c⟩
     ·simp[hz] at a
     ·simp[hz] at a;exact⟨c,a.symm⟩
    have hz':((m:Int)==0)=false:=by rw[beq_eq_false_iff_ne];omega
    have hw:wrap64 (-(m:Int))= -(m:Int):=IntWalk.wrap64_in _ ⟨by omega,by omega⟩;clear h' hz;go_enter func260,ntmps260;go_wp2_with(first|(go_at_call 115;refine(ko s t true _ HT.out HN.out).mono ?_;rintro e w' ⟨rfl,rfl⟩)|(go_at_call 261;refine(iZ t true m _ HD.out HM.out).mono ?_;rintro e w' ⟨rfl,rfl⟩))
    go_ret2
    exact⟨rfl,rfl⟩
def ck (n d:Int):R3:=if dz n d=0 then⟨n,d,0⟩ else⟨0,0,dz n d⟩
def rd (l:List UInt8):R3:=
  match kZ (ahead 47 l) with
  |none=>⟨0,0,1⟩
  |some n=>match behind 47 l with
    |none=>ck n 1
    |some b=>if uY b=true/\val b≠1 then ck n (val b) else⟨0,0,1⟩
def Lr (aT aB aS aZ:Addr)(c:Nat):ah:=if c=1 then .iface 390 (.pointer (some aT)) else er aB aS aZ c
theorem ve {l:List UInt8}{v:Int}(h:kZ l=some v): -10000000000<v/\v<10000000000:=by
  unfold kZ at h;split at h
  · rename_i hc
    have:=tX hc.1;simp only[Option.some.injEq] at h;split at h<;>omega
  · cases h
theorem Jh (s:aD)(w:ag)(h:kZ s.data.toList=none):
    ax 260 #[.string s] w fun e w'=>e=.returned (.tuple #[aa 0,.bool false])/\w'=w:=yo s false 0 w (Or.inl ⟨h,rfl,rfl⟩)
theorem mX (s:aD)(v:Int)(w:ag)(h:kZ s.data.toList=some v):
    ax 260 #[.string s] w fun e w'=>e=.returned (.tuple #[aa v,.bool true])/\w'=w:=yo s true v w (Or.inr ⟨h,rfl⟩)
theorem Ji (aB aS aZ:Addr)(n d:Int)(w:ag)(n1: -9223372036854775808<=n)(n2:n<=9223372036854775807)(d1: -9223372036854775808<=d)(d2:d<=9223372036854775807)(h:E3 aB aS aZ w)(hc:dz n d=0):
    ax 183 #[aa n,aa d] w fun e w'=>e=.returned .nilIface/\∃k,w'=w.drewN k:=by
  have:=wD aB aS aZ n d w n1 n2 d1 d2 h;rw[hc] at this;exact this
theorem Jj (aB aS aZ:Addr)(n d:Int)(a:Addr)(w:ag)(n1: -9223372036854775808<=n)(n2:n<=9223372036854775807)(d1: -9223372036854775808<=d)(d2:d<=9223372036854775807)(h:E3 aB aS aZ w)(hc:er aB aS aZ (dz n d)=.iface 390 (.pointer (some a))):
    ax 183 #[aa n,aa d] w fun e w'=>e=.returned (.iface 390 (.pointer (some a)))/\∃k,w'=w.drewN k:=by
  rw[<- hc];exact wD aB aS aZ n d w n1 n2 d1 d2 h
theorem Vu (aT aB aS aZ:Addr){c:Nat}(h:c≠1):Lr aT aB aS aZ c=er aB aS aZ c:=by unfold Lr;rw[if_neg h]
theorem Re (aT aB aS aZ:Addr)(s:aD)(w:ag)(h:E3 aB aS aZ w)(hT:w.cell? (ak 1 0)=some (.iface 390 (.pointer (some aT))))(hb:behind 47 s.data.toList=none):
    ax 232 #[.string s] w fun e w'=>e=.returned (.tuple #[.agg #[aa (rd s.data.toList).n,aa (rd s.data.toList).d],Lr aT aB aS aZ (rd s.data.toList).c])/\Below w.heap.size w w':=by
  have ha:=(index_none 47 _ hb).2;have HB:=aj hb;have hlt:=aC hT;simp only at hlt;have hne':¬1=w.heap.size:=by omega
  have hcT:∀o,(w.alloc o).cell? (ak 1 0)=some (.iface 390 (.pointer (some aT))):=fun o=>by
    rw[World.cell?_alloc_lt _ _ ⟨1,0,none⟩ hlt];exact hT
  cases hn:kZ s.data.toList with
  |none=>
    have hr:rd s.data.toList=⟨0,0,1⟩:=by unfold rd;rw[ha,hn]
    rw[hr];have HN:=aj hn;clear hn hr ha hb hT hlt;go_enter func232,ntmps232;go_wp2_with(first|(go_at_call 44;refine(Aq s _ HB.out).mono ?_;rintro e w' ⟨rfl,k,rfl⟩)|(go_at_call 260;refine(Jh s _ HN.out).mono ?_;rintro e w' ⟨rfl,rfl⟩));go_region;go_wp2;refine bodyPost_ret (v:=.tuple #[.agg #[aa 0,aa 0],.iface 390 (.pointer (some aT))]) (by simp[results,results232,go_sem]) rfl ⟨rfl,?_⟩
    first|exact below_drewN ((Below.refl _ _).alloc ai _) _|exact((below_drewN ((Below.refl _ _).alloc ai _) _).setCell (by simp) _).setCell (by simp) _
  |some n=>
    have hr:rd s.data.toList=ck n 1:=by unfold rd;rw[ha,hn,hb]
    rw[hr];have HN:=aj hn;obtain⟨n1,n2⟩:=ve hn;clear hn hr ha hb hT hlt;by_cases hc:dz n 1=0
    · have e:ck n 1=⟨n,1,0⟩:=by unfold ck;rw[if_pos hc]
      rw[e];have HC:=aj hc;clear e hc;go_enter func232,ntmps232;go_wp2_with(first|(go_at_call 44;refine(Aq s _ HB.out).mono ?_;rintro e w' ⟨rfl,k,rfl⟩)|(go_at_call 260;refine(mX s n _ HN.out).mono ?_;rintro e w' ⟨rfl,rfl⟩)|(go_at_call 183;refine(Ji aB aS aZ _ _ _ (by omega) (by omega) (by omega) (by omega) ?_ HC.out).mono ?_;exact(h.alloc _).drewN _;rintro e w' ⟨rfl,k2,rfl⟩));refine bodyPost_ret (v:=.tuple #[.agg #[aa n,aa 1],.nilIface]) (by simp[results,results232,go_sem]) rfl ⟨rfl,?_⟩
      first|exact below_drewN ((Below.refl _ _).alloc ai _) _|exact((below_drewN ((Below.refl _ _).alloc ai _) _).setCell (by simp) _).setCell (by simp) _
    · have hc':dz n 1=2\/dz n 1=3:=by rcases eu n 1 with e|e|e<;>simp_all
      have e:ck n 1=⟨0,0,dz n 1⟩:=by unfold ck;rw[if_neg hc]
      obtain⟨a,Mh⟩:=fG aB aS aZ hc';rw[e];simp only;rw[Vu aT aB aS aZ (show dz n 1≠1 by omega),Mh];have HC:=aj Mh;clear e hc hc' Mh;go_enter func232,ntmps232;go_wp2_with(first|(go_at_call 44;refine(Aq s _ HB.out).mono ?_;rintro e w' ⟨rfl,k,rfl⟩)|(go_at_call 260;refine(mX s n _ HN.out).mono ?_;rintro e w' ⟨rfl,rfl⟩)|(go_at_call 183;refine(Jj aB aS aZ _ _ a _ (by omega) (by omega) (by omega) (by omega) ?_ HC.out).mono ?_;exact(h.alloc _).drewN _;rintro e w' ⟨rfl,k2,rfl⟩));refine bodyPost_ret (v:=.tuple #[.agg #[aa 0,aa 0],.iface 390 (.pointer (some a))]) (by simp[results,results232,go_sem]) rfl ⟨rfl,?_⟩
      first|exact below_drewN ((Below.refl _ _).alloc ai _) _|exact((below_drewN ((Below.refl _ _).alloc ai _) _).setCell (by simp) _).setCell (by simp) _
theorem Rf (aT aB aS aZ:Addr)(s a b:aD)(w:ag)(h:E3 aB aS aZ w)(hT:w.cell? (ak 1 0)=some (.iface 390 (.pointer (some aT))))(hb:behind 47 s.data.toList=some b.data.toList)(ha:ahead 47 s.data.toList=a.data.toList)(hm:s.size<=9223372036854775807):
    ax 232 #[.string s] w fun e w'=>e=.returned (.tuple #[.agg #[aa (rd s.data.toList).n,aa (rd s.data.toList).d],Lr aT aB aS aZ (rd s.data.toList).c])/\Below w.heap.size w w':=by
  have HB:=aj hb;have HA:=aj ha;have hlt:=aC hT;simp only at hlt;have hne':¬1=w.heap.size:=by omega
  have hcT:∀o,(w.alloc o).cell? (ak 1 0)=some (.iface 390 (.pointer (some aT))):=fun o=>by
    rw[World.cell?_alloc_lt _ _ ⟨1,0,none⟩ hlt];exact hT
  cases hn:kZ a.data.toList with
  |none=>
    have hr:rd s.data.toList=⟨0,0,1⟩:=by unfold rd;rw[ha,hn]
    rw[hr];have HN:=aj hn;clear hn hr ha hb hT hlt;go_enter func232,ntmps232;go_wp2_with(first|(go_at_call 44;refine(qo s a b _ HB.out HA.out hm).mono ?_;rintro e w' ⟨rfl,k,rfl⟩)|(go_at_call 260;refine(Jh a _ HN.out).mono ?_;rintro e w' ⟨rfl,rfl⟩));go_region;go_wp2;refine bodyPost_ret (v:=.tuple #[.agg #[aa 0,aa 0],.iface 390 (.pointer (some aT))]) (by simp[results,results232,go_sem]) rfl ⟨rfl,?_⟩
    first|exact below_drewN ((Below.refl _ _).alloc ai _) _|exact((below_drewN ((Below.refl _ _).alloc ai _) _).setCell (by simp) _).setCell (by simp) _
  |some n=>
    have hr:rd s.data.toList=if uY b.data.toList=true/\val b.data.toList≠1 then ck n (val b.data.toList) else⟨0,0,1⟩:=by unfold rd;rw[ha,hn,hb]
    rw[hr];have HN:=aj hn;obtain⟨n1,n2⟩:=ve hn;clear hn hr ha hb hT hlt;cases hd:uY b.data.toList with
    |false=>
      rw[if_neg (by simp)];have HD:=aj hd;clear hd;go_enter func232,ntmps232;go_wp2_with(first|(go_at_call 44;refine(qo s a b _ HB.out HA.out hm).mono ?_;rintro e w' ⟨rfl,k,rfl⟩)|(go_at_call 260;refine(mX a n _ HN.out).mono ?_;rintro e w' ⟨rfl,rfl⟩)|(go_at_call 261;refine(iZ b false 0 _ HD.out (by simp)).mono ?_;rintro e w' ⟨rfl,rfl⟩));go_region;go_wp2;refine bodyPost_ret (v:=.tuple #[.agg #[aa 0,aa 0],.iface 390 (.pointer (some aT))]) (by simp[results,results232,go_sem]) rfl ⟨rfl,?_⟩
      first|exact below_drewN ((Below.refl _ _).alloc ai _) _|exact((below_drewN ((Below.refl _ _).alloc ai _) _).setCell (by simp) _).setCell (by simp) _
    |true=>
      have hv:=tX hd;obtain⟨d,hdv⟩:∃d:Nat,val b.data.toList=d:=⟨_,rfl⟩;rw[hdv];rw[hdv] at hv;have HD:=aj hd;have HV:Hid ((if true=true then(val b.data.toList:Int) else 0)=d):=by show _=_;rw[if_pos rfl,hdv]
      clear hd hdv;by_cases hd1:d=1
      · subst hd1
        rw[if_neg (by simp)];go_enter func232,ntmps232;go_wp2_with(first|(go_at_call 44;refine(qo s a b _ HB.out HA.out hm).mono ?_;rintro e w' ⟨rfl,k,rfl⟩)|(go_at_call 260;refine(mX a n _ HN.out).mono ?_;rintro e w' ⟨rfl,rfl⟩)|(go_at_call 261;refine(iZ b true 1 _ HD.out HV.out).mono ?_;rintro e w' ⟨rfl,rfl⟩));go_region;go_wp2;refine bodyPost_ret (v:=.tuple #[.agg #[aa 0,aa 0],.iface 390 (.pointer (some aT))]) (by simp[results,results232,go_sem]) rfl ⟨rfl,?_⟩
        first|exact below_drewN ((Below.refl _ _).alloc ai _) _|exact((below_drewN ((Below.refl _ _).alloc ai _) _).setCell (by simp) _).setCell (by simp) _
      · rw[if_pos ⟨rfl,hd1⟩]
        have hd2:((d:Int)==1)=false:=by rw[beq_eq_false_iff_ne];omega
        clear hd1;by_cases hc:dz n d=0
        · have e:ck n d=⟨n,d,0⟩:=by unfold ck;rw[if_pos hc]
          rw[e];have HC:=aj hc;clear e hc;go_enter func232,ntmps232;go_wp2_with(first|(go_at_call 44;refine(qo s a b _ HB.out HA.out hm).mono ?_;rintro e w' ⟨rfl,k,rfl⟩)|(go_at_call 260;refine(mX a n _ HN.out).mono ?_;rintro e w' ⟨rfl,rfl⟩)|(go_at_call 261;refine(iZ b true d _ HD.out HV.out).mono ?_;rintro e w' ⟨rfl,rfl⟩)|(go_at_call 183;refine(Ji aB aS aZ _ _ _ (by omega) (by omega) (by omega) (by omega) ?_ HC.out).mono ?_;exact(h.alloc _).drewN _;rintro e w' ⟨rfl,k2,rfl⟩));refine bodyPost_ret (v:=.tuple #[.agg #[aa n,aa d],.nilIface]) (by simp[results,results232,go_sem]) rfl ⟨rfl,?_⟩
          first|exact below_drewN ((Below.refl _ _).alloc ai _) _|exact((below_drewN ((Below.refl _ _).alloc ai _) _).setCell (by simp) _).setCell (by simp) _
        · have hc':dz n d=2\/dz n d=3:=by rcases eu n d with e|e|e<;>simp_all
          have e:ck n d=⟨0,0,dz n d⟩:=by unfold ck;rw[if_neg hc]
          obtain⟨ae,Mh⟩:=fG aB aS aZ hc';rw[e];simp only;rw[Vu aT aB aS aZ (show dz n d≠1 by omega),Mh];have HC:=aj Mh;clear e hc hc' Mh;go_enter func232,ntmps232;go_wp2_with(first|(go_at_call 44;refine(qo s a b _ HB.out HA.out hm).mono ?_;rintro e w' ⟨rfl,k,rfl⟩)|(go_at_call 260;refine(mX a n _ HN.out).mono ?_;rintro e w' ⟨rfl,rfl⟩)|(go_at_call 261;refine(iZ b true d _ HD.out HV.out).mono ?_;rintro e w' ⟨rfl,rfl⟩)|(go_at_call 183;refine(Jj aB aS aZ _ _ ae _ (by omega) (by omega) (by omega) (by omega) ?_ HC.out).mono ?_;exact(h.alloc _).drewN _;rintro e w' ⟨rfl,k2,rfl⟩));refine bodyPost_ret (v:=.tuple #[.agg #[aa 0,aa 0],.iface 390 (.pointer (some ae))]) (by simp[results,results232,go_sem]) rfl ⟨rfl,?_⟩
          first|exact below_drewN ((Below.refl _ _).alloc ai _) _|exact((below_drewN ((Below.refl _ _).alloc ai _) _).setCell (by simp) _).setCell (by simp) _
theorem qX (aT aB aS aZ:Addr)(s:aD)(w:ag)(h:E3 aB aS aZ w)(hT:w.cell? (ak 1 0)=some (.iface 390 (.pointer (some aT))))(hm:s.size<=9223372036854775807):
    ax 232 #[.string s] w fun e w'=>e=.returned (.tuple #[.agg #[aa (rd s.data.toList).n,aa (rd s.data.toList).d],Lr aT aB aS aZ (rd s.data.toList).c])/\Below w.heap.size w w':=by
  cases hb:behind 47 s.data.toList with
  |none=>exact Re aT aB aS aZ s w h hT hb
  |some b=>exact Rf aT aB aS aZ s ⟨(ahead 47 s.data.toList).toArray⟩ ⟨b.toArray⟩ w h hT (by rw[hb]) rfl hm
theorem ownsRow_below {w w':ag}{base:Nat}{e:TypeId}{size n:Nat}{v:ah}{xs:List ah}(h:w.ownsRow base e size v n xs)(hb:Below w.heap.size w w'):w'.ownsRow base e size v n xs:=by
 obtain⟨h1,h2⟩:=h;refine⟨h1,?_⟩;rcases h2 with h2|⟨g,cap,cur,h3,h4,h5,h6⟩
 ·exact .inl h2
 ·exact .inr ⟨g,cap,cur,h3,h4,(hb.block g (Array.getElem?_eq_some_iff.1 h5).1).trans h5,h6⟩
theorem qp {w:ag}{base:Nat}{e:TypeId}{size n:Nat}{v:ah}{xs:List ah}(h:w.ownsRow base e size v (n+1) xs):∃g cap,v=.slice (some ⟨g,0,none⟩) (n+1) cap/\base<=g/\g<w.heap.size/\n+1<=cap/\cap<=maxLen/\∀j u,xs[j]? =some u->w.cell? (ak g j)=some u:=by
 obtain⟨h1,h2⟩:=h;rcases h2 with⟨_,h2⟩|⟨g,cap,cur,h3,h4,h5,h6,h7,h8,h9⟩
 ·omega
 ·refine⟨g,cap,h3,h4,(Array.getElem?_eq_some_iff.1 h5).1,h6,h7,fun j u hj=>?_⟩;rw[<- h9] at hj;have hc:cur[j]? =some u:=by
   rw[List.getElem?_take] at hj;split at hj
   ·simpa using hj
   ·cases hj
  simp[World.cell?,h5,hc]
theorem dH.grown {w w':ag}{R:Nat}{cs:Array ah}{t:TypeId}{row:Option Nat}(h:dH w R cs t)(hg:w.grownBy w' row)(hr:row≠some R):dH w' R cs t:=⟨(hg.block R h.lt (fun e=>hr e.symm)).trans h.h⟩
theorem Mi {w:ag}{base:Nat}{e:TypeId}{size n:Nat}{v:ah}{xs:List ah}(h:w.ownsRow base e size v n xs):∀k,v.ownBlock=some k->base<=k:=by
 obtain⟨_,h2⟩:=h;rcases h2 with⟨rfl,_⟩|⟨g,cap,cur,rfl,h4,_⟩
 ·intro k hk;cases hk
 ·intro k hk;simp only[Value.ownBlock] at hk;cases hk;exact h4
theorem Ar:(prog.info? 127).map (fun i=>(i.zero,i.size,i.bytes))=some (some (.agg #[aa 0,aa 0]),2,16):=by kernel_rfl
theorem ZK {x y:Int}:∀u∈[Value.int .i64 x,aa y],u.oneCell'=true:=fun u hu=>by
 simp at hu;rcases hu with rfl|rfl<;>rfl
theorem FL {w:ag}{x y:ah}{t:TypeId}{B:Nat}(hB:B=w.heap.size):∀(j:Nat) (u:ah),[x,y][j]? =some u->(w.alloc (.cells #[x,y] t)).cell? ((⟨B,0,none⟩:Addr).add j)=some u:=fun j u hj=>by
 match j,hj with
 |0,hj=>simp at hj;subst hj;exact bg hB rfl
 |1,hj=>simp at hj;subst hj;exact bg hB rfl
 |j+2,hj=>simp at hj
theorem a6O (F:Nat)(hcf:∀(av:Array ah) (w:ag),Sem.run prog (callFunc F av) w=.ok (.enter F av) w)(b o cap B:Nat)(s1 s2:aD)(x1 x2:Fr)(r:Mv)(W:ag)(hB:W.cell? (ak B 0)=some (.func (.func F) #[] #[]))(h1:W.cell? (ak b o)=some (.string s1))(h2:W.cell? (ak b (o+1))=some (.string s2))
  (R1:∀V,Below W.heap.size W V->ax 232 #[.string s1] V fun e w'=>e=.returned (.tuple #[.agg #[aa x1.n,aa x1.d],.nilIface])/\Below V.heap.size V w')
  (R2:∀V,Below W.heap.size W V->ax 232 #[.string s2] V fun e w'=>e=.returned (.tuple #[.agg #[aa x2.n,aa x2.d],.nilIface])/\Below V.heap.size V w')
  (HOW:∀V g c,Below W.heap.size W V->V.cell? (ak g 0)=some (aa x1.n)->V.cell? (ak g 1)=some (aa x1.d)->V.cell? (ak g 2)=some (aa x2.n)->V.cell? (ak g 3)=some (aa x2.d)->ax F #[.slice (some ⟨g,0,none⟩) 2 c] V fun e w'=>e=.returned (mv r)/\Below V.heap.size V w'):
  ax 284 #[.slice (some ⟨b,o,none⟩) 2 cap,ay B] W fun e w'=>e=.returned (.tuple #[mv r,.nilIface])/\Below W.heap.size W w':=by
 have L0:=(Below.refl W.heap.size W).alloc ai (.cells zA 129);have B0:=dH.new W zA 129;have g1:=fun o=>au o h1;obtain⟨i0,hi,hz0,hz1,hz2⟩:=info_parts Ar;go_enter func284,ntmps284;go_wp2;refine wp_loop_rounds 3 ?_;rw[rounds_succ];go_wp2_with(first|(at_builtin;refine wpList_append_own_at _ rfl _ _ 322 rfl (W.heap.size+1) 127 i0 (.agg #[aa 0,aa 0]) 2 16 underlying322 hi hz0 hz1 hz2 rfl (by decide) (.slice none 0 0) 0 [] rfl O1 ⟨w1.heap.size+1,0,none⟩ 1 1 [aa x1.n,aa x1.d] rfl rfl (FL (by simp)) ZK (by unfold maxLen;omega) (by omega) (by simp;omega) ?_;intro v1 V1 hown1 hgrow1 _ a1K;have L2:=((L1.alloc (by omega) _).alloc (by simp;omega) _).grown hgrow1 (by simp;omega) (fun k e=>by simp[Value.ownBlock] at e);have B2:=((B1.alloc _).alloc _).grown hgrow1 (by simp[Value.ownBlock]);have z1:=hgrow1.size;simp only[World.size_alloc] at z1;have g2:=(L2.cell (p:=⟨b,o+1,none⟩) (aC h2)).trans h2)|(go_at_call_of 232 s1;refine(R1 _ L0).mono ?_;rintro e w1 ⟨rfl,hb1⟩;have Mj:=hb1.size;simp only[World.size_alloc] at Mj;have L1:=(L0.trans (hb1.mono (by simp)));have B1:=B0.below hb1 ai;have O1:((w1.alloc (.cells #[aa x1.n,aa x1.d] 127)).alloc (.cells #[aa x1.n,aa x1.d] 127)).ownsRow (W.heap.size+1) 127 2 (.slice none 0 0) 0 []:=World.ownsRow_nil _ _ _ _));rw[rounds_succ];go_wp2_with(first|(at_builtin;refine wpList_append_own_at _ rfl _ _ 322 rfl (W.heap.size+1) 127 i0 (.agg #[aa 0,aa 0]) 2 16 underlying322 hi hz0 hz1 hz2 rfl (by decide) v1 1 _ rfl O2 ⟨w2.heap.size+1,0,none⟩ 1 1 [aa x2.n,aa x2.d] rfl rfl (FL (by simp)) ZK (by unfold maxLen;omega) (by omega) (by simp;omega) ?_;intro v2 V2 hown2 hgrow2 _ aez;have lo2:=Mi O2;have L4:=((L3.alloc (by omega) _).alloc (by simp;omega) _).grown hgrow2 (by simp;omega) (fun k e=>by have:=lo2 k e;omega);have B4:=((B3.alloc _).alloc _).grown hgrow2 (fun e=>by have:=lo2 _ e;omega);obtain⟨g,c2,rfl,hg1,hg2,hg3,hg4,hg5⟩:=qp hown2;have gB:=(L4.cell (p:=⟨B,0,none⟩) (aC hB)).trans hB)|(go_at_call_of 232 s2;refine(R2 _ L2).mono ?_;rintro e w2 ⟨rfl,hb2⟩;have sz2:=hb2.size;have L3:=L2.trans (hb2.mono (by omega));have B3:=B2.below hb2 ai;have O2:=((ownsRow_below hown1 hb2).alloc (.cells #[aa x2.n,aa x2.d] 127)).alloc (.cells #[aa x2.n,aa x2.d] 127)))
 rw[rounds_succ];go_wp2_with((refine(HOW _ g c2 L4 (hg5 0 _ rfl) (hg5 1 _ rfl) (hg5 2 _ rfl) (hg5 3 _ rfl)).mono ?_;rintro e w5 ⟨rfl,hb5⟩;have sz5:=hb5.size;have B5:=B4.below hb5 ai;obtain⟨oV,El,oZ,Em,pg,Eo,pz,Ep,uC,Iy,uD,Iz,uF,IG,uG,II,uH,IJ,uI,IK,je,qh,jf,qi⟩:=B5.six));refine bodyPost_ret (v:=.tuple #[mv r,.nilIface]) (by simp[results,results284,go_sem,oV,oZ,pg,pz,uC,uD,uF,uG,uH,uI,je,jf]) rfl ⟨rfl,?_⟩;exact aQ (R:=W.heap.size) ai (mL r) 0 (L4.trans (hb5.mono (by omega)))
def Mv.shift (x y:Fr):Mv:=⟨.whole 1,.whole 0,.whole 0,.whole 1,x,y⟩
def Mv.scale (x y:Fr):Mv:=⟨x,.whole 0,.whole 0,y,.whole 0,.whole 0⟩
def Mv.skew (x:Fr):Mv:=⟨.whole 1,.whole 0,x,.whole 1,.whole 0,.whole 0⟩
def Mv.turn (c s:Int):Mv:=⟨.whole c,.whole s,.whole (-s),.whole c,.whole 0,.whole 0⟩
theorem Rh (g c:Nat)(x1 x2:Fr)(W:ag)(k0:W.cell? (ak g 0)=some (aa x1.n))(k1:W.cell? (ak g 1)=some (aa x1.d))(k2:W.cell? (ak g 2)=some (aa x2.n))(k3:W.cell? (ak g 3)=some (aa x2.d)):
  ax 266 #[.slice (some ⟨g,0,none⟩) 2 c] W fun e w'=>e=.returned (mv (Mv.shift x1 x2))/\Below W.heap.size W w':=by
 have HO:=nO;have lt:=aC k0;simp only at lt;have L0:=(Below.refl W.heap.size W).alloc ai (.cells zA 129);have B0:=dH.new W zA 129;go_enter func266,ntmps266;go_wp2_with(go_at_call 52;refine(HO _).mono ?_;rintro e w1 ⟨rfl,hb1⟩;have LO:=L0.trans (hb1.mono (by simp));have sz:=hb1.size;simp only[World.size_alloc] at sz;have B1:=B0.below hb1 ai;have n1:¬w1.heap.size=W.heap.size:=(by omega);have n2:¬W.heap.size=w1.heap.size:=(by omega);have n3:¬g=w1.heap.size:=(by omega);have n4:¬w1.heap.size=g:=(by omega);dsimp only[Mv.one,Fr.whole];have g0:=fun o=>au o ((LO.cell (p:=⟨g,0,none⟩) (aC k0)).trans k0);have g1:=fun o=>au o ((LO.cell (p:=⟨g,1,none⟩) (aC k1)).trans k1);have g2:=fun o=>au o ((LO.cell (p:=⟨g,2,none⟩) (aC k2)).trans k2);have g3:=fun o=>au o ((LO.cell (p:=⟨g,3,none⟩) (aC k3)).trans k3);obtain⟨oV,El,oZ,Em,pg,Eo,pz,Ep,uC,Iy,uD,Iz,uF,IG,uG,II,uH,IJ,uI,IK,je,qh,jf,qi⟩:=B1.Vi);go_region;go_wp2;refine bodyPost_ret (v:=mv (Mv.shift x1 x2)) (by simp[results,results266,go_sem,Mv.shift,Fr.whole,oV,oZ,pg,pz,uC,uD,uF,uG,uH,uI,je,jf]) rfl ⟨rfl,?_⟩;exact below_drewN (aQ (R:=W.heap.size) ai [aa 1,aa 1,aa 0,aa 1,aa 0,aa 1,aa 1,aa 1,aa x1.n,aa x1.d,aa x2.n,aa x2.d] 0 (LO.alloc (by omega) (.cells #[aa 1,aa 1,aa 0,aa 1,aa 0,aa 1,aa 1,aa 1,aa x1.n,aa x1.d,aa x2.n,aa x2.d] 129))) 1
theorem Ri (g c:Nat)(x1 x2:Fr)(W:ag)(k0:W.cell? (ak g 0)=some (aa x1.n))(k1:W.cell? (ak g 1)=some (aa x1.d))(k2:W.cell? (ak g 2)=some (aa x2.n))(k3:W.cell? (ak g 3)=some (aa x2.d)):
  ax 267 #[.slice (some ⟨g,0,none⟩) 2 c] W fun e w'=>e=.returned (mv (Mv.scale x1 x2))/\Below W.heap.size W w':=by
 have HO:=nO;have lt:=aC k0;simp only at lt;have L0:=(Below.refl W.heap.size W).alloc ai (.cells zA 129);have B0:=dH.new W zA 129;go_enter func267,ntmps267;go_wp2_with(go_at_call 52;refine(HO _).mono ?_;rintro e w1 ⟨rfl,hb1⟩;have LO:=L0.trans (hb1.mono (by simp));have sz:=hb1.size;simp only[World.size_alloc] at sz;have B1:=B0.below hb1 ai;have n1:¬w1.heap.size=W.heap.size:=(by omega);have n2:¬W.heap.size=w1.heap.size:=(by omega);have n3:¬g=w1.heap.size:=(by omega);have n4:¬w1.heap.size=g:=(by omega);dsimp only[Mv.one,Fr.whole];have g0:=fun o=>au o ((LO.cell (p:=⟨g,0,none⟩) (aC k0)).trans k0);have g1:=fun o=>au o ((LO.cell (p:=⟨g,1,none⟩) (aC k1)).trans k1);have g2:=fun o=>au o ((LO.cell (p:=⟨g,2,none⟩) (aC k2)).trans k2);have g3:=fun o=>au o ((LO.cell (p:=⟨g,3,none⟩) (aC k3)).trans k3);obtain⟨oV,El,oZ,Em,pg,Eo,pz,Ep,uC,Iy,uD,Iz,uF,IG,uG,II,uH,IJ,uI,IK,je,qh,jf,qi⟩:=B1.Vi);go_region;go_wp2;refine bodyPost_ret (v:=mv (Mv.scale x1 x2)) (by simp[results,results267,go_sem,Mv.scale,Fr.whole,oV,oZ,pg,pz,uC,uD,uF,uG,uH,uI,je,jf]) rfl ⟨rfl,?_⟩;exact below_drewN (aQ (R:=W.heap.size) ai [aa x1.n,aa x1.d,aa 0,aa 1,aa 0,aa 1,aa x2.n,aa x2.d,aa 0,aa 1,aa 0,aa 1] 0 (LO.alloc (by omega) (.cells #[aa x1.n,aa x1.d,aa 0,aa 1,aa 0,aa 1,aa x2.n,aa x2.d,aa 0,aa 1,aa 0,aa 1] 129))) 1
end
section
theorem dh {n:Int}(h:n.natAbs<=1073741824):(Fr.whole n).ok:=dJ.2 ⟨by simp[Fr.whole],by simp[fC,Fr.whole],by simpa[Fr.whole] using h,by simp[Fr.whole]⟩
theorem Au:Mv.one.ok:=⟨dh (by decide),dh (by decide),dh (by decide),dh (by decide),dh (by decide),dh (by decide)⟩
theorem nQ {m:Mv}(h:m.ok):(aK 0 m.list).1=0:=by
 rw[jL];intro y hy;simp only[Mv.list,List.mem_cons,List.not_mem_nil,or_false] at hy;obtain⟨h1,h2,h3,h4,h5,h6⟩:=h;rcases hy with rfl|rfl|rfl|rfl|rfl|rfl<;>assumption
theorem OY {p:Pt}(h:p.ok):(aK 6 p.list).1=0:=by
 rw[jL];intro y hy;simp only[Pt.list,List.mem_cons,List.not_mem_nil,or_false] at hy;rcases hy with rfl|rfl
 ·exact h.1
 ·exact h.2
theorem Jk {m n x:Mv}(hm:m.ok)(hn:n.ok)(h:thenS m n=(x,0)):oO m n=(x,.no):=by
 unfold oO;rw[if_neg (by simp[nQ hm]),if_neg (by simp[nQ hn]),h];simp
theorem a3c {m:Mv}{p q:Pt}(hm:m.ok)(hp:p.ok)(h:bZ 0 m p=(q,0)):atR m p=(q,.no):=by
 unfold atR;rw[if_neg (by simp[nQ hm]),if_neg (by simp[OY hp]),h];simp
theorem Jl {m n x:Mv}(h:oO m n=(x,.no)):m.ok/\n.ok/\thenS m n=(x,0):=by
 unfold oO at h;by_cases h1:(aK 0 m.list).1=0
 ·rw[if_neg (by simp[h1])] at h;by_cases h2:(aK 0 n.list).1=0
  ·rw[if_neg (by simp[h2])] at h;by_cases h3:(thenS m n).2=0
   ·rw[if_pos h3] at h;exact⟨oN h1,oN h2,Prod.ext (Prod.mk.inj h).1 h3⟩
   ·rw[if_neg h3] at h;cases h
  ·rw[if_pos h2] at h;cases h
 ·rw[if_pos h1] at h;cases h
theorem a3d {m:Mv}{p q:Pt}(h:atR m p=(q,.no)):m.ok/\p.ok/\bZ 0 m p=(q,0):=by
 unfold atR at h;by_cases h1:(aK 0 m.list).1=0
 ·rw[if_neg (by simp[h1])] at h;by_cases h2:(aK 6 p.list).1=0
  ·rw[if_neg (by simp[h2])] at h;by_cases h3:(bZ 0 m p).2=0
   ·rw[if_pos h3] at h;exact⟨oN h1,OQ h2,Prod.ext (Prod.mk.inj h).1 h3⟩
   ·rw[if_neg h3] at h;cases h
  ·rw[if_pos h2] at h;cases h
 ·rw[if_pos h1] at h;cases h
inductive Kd where
  |move
  |scale
  |turn
  |skew
def Kd.n:Kd->Nat
  | .move=>2
  | .scale=>2
  | .turn=>1
  | .skew=>1
def pE (b:aD):Option Kd:=if b=Es then some .move else if b=wU then some .scale else if b=yj then some .turn else if b=Et then some .skew else none
def Eu (a:aD):Fr:=⟨(rd a.data.toList).n,(rd a.data.toList).d⟩
def yt (a:aD):Nat:=(rd a.data.toList).c
def ze (mk:Fr->Fr->Mv)(a b:aD):Mv×Nat:=if yt a≠0 then(.zero,yt a) else if yt b≠0 then(.zero,yt b) else(mk (Eu a) (Eu b),0)
def GU (mk:Fr->Mv)(a:aD):Mv×Nat:=if yt a≠0 then(.zero,yt a) else(mk (Eu a),0)
def Av (a:aD):Mv×Nat:=
  if a=⟨#[48]⟩ then(.turn 1 0,0) else if a=⟨#[49]⟩ then(.turn 0 1,0) else if a=⟨#[50]⟩ then(.turn (-1) 0,0) else if a=⟨#[51]⟩ then(.turn 0 (-1),0) else(.zero,1)
def Ev:Kd->List aD->Mv×Nat
  | .move,a::b::_=>ze Mv.shift a b
  | .scale,a::b::_=>ze Mv.scale a b
  | .turn,a::_=>Av a
  | .skew,a::_=>GU Mv.skew a
  |_,_=>(.zero,1)
def eU:Nat->List aD->List Mv->List Mv×Nat
  |_,[],acc=>(acc,0)
  |0,_::_,_=>([],1)
  |f+1,k::ws,acc=>match pE k with
    |none=>([],1)
    |some kd=>if ws.length<kd.n then([],1) else if(Ev kd ws).2=0 then eU f (ws.drop kd.n) (acc++[(Ev kd ws).1]) else([],(Ev kd ws).2)
def jq:Mv->List Mv->Mv×Nat
  |m,[]=>(m,0)
  |m,n::l=>if(thenS m n).2=0 then jq (thenS m n).1 l else(.zero,2)
def words (s:aD):List aD:=Lib.splitB ⟨#[32]⟩ 0 (Lib.countB s ⟨#[32]⟩) s
def l6 (s:aD):List Mv×Nat:=if s.size=0 then([],0) else eU (words s).length (words s) []
def iL (s:aD):Mv×Nat:=if(l6 s).2=0 then jq .one (l6 s).1.reverse else(.zero,(l6 s).2)
theorem OZ {l:List UInt8}(h:(rd l).c=0):dz (rd l).n (rd l).d=0:=by
  unfold rd at h⊢;cases hn:kZ (ahead 47 l) with
  |none=>rw[hn] at h;cases h
  |some n=>
    rw[hn] at h;simp only at h⊢;cases hb:behind 47 l with
    |none=>
      rw[hb] at h;simp only[ck] at h⊢;split at h
      · rename_i hc;simp[hc]
      · rename_i hc;exact(hc h).elim
    |some b=>
      rw[hb] at h;simp only at h⊢;split at h
      · rename_i hd
        simp only[ck] at h⊢;split at h
        · rename_i hc;simp[hd,hc]
        · rename_i hc;exact(hc h).elim
      · cases h
theorem Mk {a:aD}(h:yt a=0):(Eu a).ok:=OZ h
theorem Rj {x y:Fr}(hx:x.ok)(hy:y.ok):(Mv.shift x y).ok:=⟨dh (by decide),dh (by decide),dh (by decide),dh (by decide),hx,hy⟩
theorem Rk {x y:Fr}(hx:x.ok)(hy:y.ok):(Mv.scale x y).ok:=⟨hx,dh (by decide),dh (by decide),hy,dh (by decide),dh (by decide)⟩
theorem Vv {x:Fr}(hx:x.ok):(Mv.skew x).ok:=⟨dh (by decide),dh (by decide),hx,dh (by decide),dh (by decide),dh (by decide)⟩
theorem Vw {c s:Int}(hc:c.natAbs<=1)(hs:s.natAbs<=1):(Mv.turn c s).ok:=⟨dh (by omega),dh (by omega),dh (by omega),dh (by omega),dh (by decide),dh (by decide)⟩
theorem Vx {mk:Fr->Fr->Mv}(hm:∀x y,x.ok->y.ok->(mk x y).ok){a b:aD}(h:(ze mk a b).2=0):(ze mk a b).1.ok:=by
  unfold ze at h⊢;by_cases h1:yt a=0
  · rw[if_neg (by simp[h1])] at h⊢
    by_cases h2:yt b=0
    · rw[if_neg (by simp[h2])];exact hm _ _ (Mk h1) (Mk h2)
    · rw[if_pos h2] at h;exact(h2 h).elim
  · rw[if_pos h1] at h;exact(h1 h).elim
theorem a3e {kd:Kd}{ws:List aD}(h:(Ev kd ws).2=0):(Ev kd ws).1.ok:=by
  unfold Ev at h⊢;split
  · exact Vx (fun _ _=>Rj) h
  · exact Vx (fun _ _=>Rk) h
  · simp only[Av] at h⊢
    repeat' split
    all_goals first|exact Vw (by decide) (by decide)|skip
    rename_i h1 h2 h3 h4;simp[h1,h2,h3,h4] at h
  · simp only[GU] at h⊢
    split
    · rename_i h1;rw[if_pos h1] at h;exact(h1 h).elim
    · rename_i h1;exact Vv (Mk (by simpa using h1))
  · rename_i h1 h2 h3 h4
    exfalso;revert h;split
    · exact(h1 _ _ _ rfl rfl).elim
    · exact(h2 _ _ _ rfl rfl).elim
    · exact(h3 _ _ rfl rfl).elim
    · exact(h4 _ _ rfl rfl).elim
    · intro h;cases h
theorem Aw:∀(f:Nat) (ws:List aD) (acc:List Mv),(∀m∈acc,m.ok)->(eU f ws acc).2=0->∀m∈(eU f ws acc).1,m.ok
  |_,[],acc,h,_=>by simpa[eU] using h
  |0,_::_,_,_,h=>by simp[eU] at h
  |f+1,k::ws,acc,ha,h=>by
    unfold eU at h⊢;cases hk:pE k with
    |none=>rw[hk] at h;simp at h
    |some kd=>
      rw[hk] at h;simp only at h⊢;by_cases hl:ws.length<kd.n
      · rw[if_pos hl] at h;simp at h
      · rw[if_neg hl] at h⊢
        by_cases hc:(Ev kd ws).2=0
        · rw[if_pos hc] at h⊢
          exact Aw f _ _ (fun m hm=>by rcases List.mem_append.1 hm with h|h;exact ha m h;simp at h;subst h;exact a3e hc) h
        · rw[if_neg hc] at h;exact(hc h).elim
end
section
open Go.RowKit
set_option maxRecDepth 20000
attribute [local go_sem] fT
theorem Vy (g c:Nat)(x1:Fr)(W:ag)(k0:W.cell? (ak g 0)=some (aa x1.n))(k1:W.cell? (ak g 1)=some (aa x1.d)):
  ax 269 #[.slice (some ⟨g,0,none⟩) 1 c] W fun e w'=>e=.returned (mv (Mv.skew x1))/\Below W.heap.size W w':=by
 have HO:=nO;have lt:=aC k0;simp only at lt;have L0:=(Below.refl W.heap.size W).alloc ai (.cells zA 129);have B0:=dH.new W zA 129;go_enter func269,ntmps269;go_wp2_with(go_at_call 52;refine(HO _).mono ?_;rintro e w1 ⟨rfl,hb1⟩;have LO:=L0.trans (hb1.mono (by simp));have sz:=hb1.size;simp only[World.size_alloc] at sz;have B1:=B0.below hb1 ai;have n1:¬w1.heap.size=W.heap.size:=(by omega);have n2:¬W.heap.size=w1.heap.size:=(by omega);have n3:¬g=w1.heap.size:=(by omega);have n4:¬w1.heap.size=g:=(by omega);dsimp only[Mv.one,Fr.whole];have g0:=fun o=>au o ((LO.cell (p:=⟨g,0,none⟩) (aC k0)).trans k0);have g1:=fun o=>au o ((LO.cell (p:=⟨g,1,none⟩) (aC k1)).trans k1);obtain⟨oV,El,oZ,Em,pg,Eo,pz,Ep,uC,Iy,uD,Iz,uF,IG,uG,II,uH,IJ,uI,IK,je,qh,jf,qi⟩:=B1.Vi);refine bodyPost_ret (v:=mv (Mv.skew x1)) (by simp[results,results269,go_sem,Mv.skew,Fr.whole,oV,oZ,pg,pz,uC,uD,uF,uG,uH,uI,je,jf]) rfl ⟨rfl,?_⟩;exact(aQ (R:=W.heap.size) ai [aa 1,aa 1,aa 0,aa 1,aa x1.n,aa x1.d,aa 1,aa 1,aa 0,aa 1,aa 0,aa 1] 0 (LO.alloc (by omega) (.cells #[aa 1,aa 1,aa 0,aa 1,aa x1.n,aa x1.d,aa 1,aa 1,aa 0,aa 1,aa 0,aa 1] 129)))
theorem vg (g o c:Nat)(W:ag)(a:aD)(x y:Int)(h:(a=⟨#[48]⟩/\x=1/\y=0)\/(a=⟨#[49]⟩/\x=0/\y=1)\/(a=⟨#[50]⟩/\x= -1/\y=0)\/(a=⟨#[51]⟩/\x=0/\y= -1))(k0:W.cell? (ak g o)=some (.string a)):
  ax 268 #[.slice (some ⟨g,o,none⟩) 1 c] W fun e w'=>e=.returned (.tuple #[mv (Mv.turn x y),.nilIface])/\Below W.heap.size W w':=by
 have P8:∀{B R:Nat} {A U:ag},B<=R->Below B A U->Below B A (put U R 0 [aa x,aa 1,aa y,aa 1,aa (-y),aa 1,aa x,aa 1]):=fun h1 h2=>aQ h1 _ 0 h2;have P12:∀{B R:Nat} {A U:ag},B<=R->Below B A U->Below B A (put U R 0 [aa x,aa 1,aa y,aa 1,aa (-y),aa 1,aa x,aa 1,aa 0,aa 1,aa 0,aa 1]):=fun h1 h2=>aQ h1 _ 0 h2;rcases h with⟨rfl,rfl,rfl⟩|⟨rfl,rfl,rfl⟩|⟨rfl,rfl,rfl⟩|⟨rfl,rfl,rfl⟩
 all_goals
  have HO:=nO;obtain⟨K2,K3,K4,K5⟩:=And.intro gG (And.intro gG (And.intro gG gG));have k1:=fun o=>au o k0;have L0:=(Below.refl W.heap.size W).alloc ai (.cells zA 129);have B0:=dH.new W zA 129;go_enter func268,ntmps268;go_wp2_with(first|(go_at_call 52;refine(HO _).mono ?_;clear HO;rintro e w1 ⟨rfl,hb1⟩;have L1:=L0.trans (hb1.mono (by simp));have Mj:=hb1.size;simp only[World.size_alloc] at Mj;have B1:=(B0.below hb1 ai).alloc (.cells oA 129);have M1:=dH.new w1 oA 129;have A1:=L1.alloc (by omega) (.cells oA 129);have n1:¬w1.heap.size=W.heap.size:=(by omega);have n2:¬W.heap.size=w1.heap.size:=(by omega);dsimp only[Mv.one,Fr.whole])|(go_at_call 99;refine(K2 _ _).mono ?_;clear K2;rintro e w2 ⟨rfl,hb2⟩;have B2:=B1.below hb2 ai;have M2:=M1.below hb2 ai;have A2:=A1.trans (hb2.mono A1.size))|(go_at_call 99;refine(K3 _ _).mono ?_;clear K3;rintro e w3 ⟨rfl,hb3⟩;have B3:=B2.below hb3 ai;have M3:=M2.below hb3 ai;have A3:=A2.trans (hb3.mono A2.size))|(go_at_call 99;refine(K4 _ _).mono ?_;clear K4;rintro e w4 ⟨rfl,hb4⟩;have B4:=B3.below hb4 ai;have M4:=M3.below hb4 ai;have A4:=A3.trans (hb4.mono A3.size))|(go_at_call 99;refine(K5 _ _).mono ?_;clear K5;rintro e w5 ⟨rfl,hb5⟩;have B5:=B4.below hb5 ai;have M5:=M4.below hb5 ai;have A5:=A4.trans (hb5.mono A4.size);obtain⟨oV,El,oZ,Em,pg,Eo,pz,Ep,uC,Iy,uD,Iz,uF,IG,uG,II,uH,IJ,uI,IK,je,qh,jf,qi⟩:=B5.six;obtain⟨mc0,mf0,mc1,mf1,mc2,mf2,mc3,mf3,mc4,mf4,mc5,mf5,mc6,mf6,mc7,mf7,mc8,mf8,mc9,mf9,aaN,aiJ,aaO,aiK⟩:=M5.six));refine bodyPost_ret (v:=.tuple #[mv (Mv.turn _ _),.nilIface]) (by simp[results,results268,go_sem,Mv.turn,Fr.whole,oV,oZ,pg,pz,uC,uD,uF,uG,uH,uI,je,jf]) rfl ⟨rfl,?_⟩;exact P12 (R:=W.heap.size) ai (P8 (R:=w1.heap.size) (by omega) A5)
theorem qw {k:aD}{l:List UInt8}(h:k≠⟨l.toArray⟩):(k.toList==l)=false:=by
 rw[ByteArray.toList_eq,beq_eq_false_iff_ne];intro e;exact h (ext_list (by rw[e]))
theorem l7 (P:Program)(w:ag)(a:Addr)(m:Mode):(store a .nilFunc m).run P w=stored P w a .nilFunc m:=run_store P w a _ m rfl
attribute [local go_sem] l7
theorem Jm (k:aD)(W:ag)(h0:k≠Es)(h1:k≠wU)(h2:k≠yj)(h3:k≠Et):
  ax 239 #[.string k] W fun e w'=>e=.returned (.tuple #[.agg #[aa 0,.nilFunc],.bool false])/\Below W.heap.size W w':=by
 have e0:=qw (l:=[109,111,118,101]) h0;have e1:=qw (l:=[115,99,97,108,101]) h1;have e2:=qw (l:=[116,117,114,110]) h2;have e3:=qw (l:=[115,107,101,119]) h3;go_enter func239,ntmps239;go_wp2;refine bodyPost_ret (v:=.tuple #[.agg #[aa 0,.nilFunc],.bool false]) (by simp[results,results239,go_sem]) rfl ⟨rfl,?_⟩;exact(Below.refl _ W).alloc ai _
end
end Go.Proofs.YtjfiehbcamfdfaaGreatDoor
